import random
import unittest

from figureclaims.answers import judge_answer
from figureclaims.desk import Desk
from figureclaims.errors import BadAct, BadAsk, NothingDone, TooGreat, UnknownName
from figureclaims.layouts import claim_laid, figure_of
from figureclaims.sheets import check_sheet
from tests.drawn import at
from tests.helpers import OTHER_KINDS, nested, raised
from tests.test_sheets import PARTS, ROWS, SHEET

TRIANGLE = (
    (("half", ("a", "b"), (("m", ("part", "a", "b", 1, 2)),), "m"),),
    (
        ("a", ("at", 0, 0)), ("b", ("at", 4, 0)), ("c", ("free",)), ("f", ("foot", "c", "a", "b")),
        ("m", ("use", "half", ("a", "b"))),
    ),
    (
        ("claim", "line", ("line", "a", "f", "m")), ("claim", "same", ("same", "c", "f")),
        ("position", "up", ((1, 2), (3, 1))), ("position", "flat", ((5, 1), (0, 1))),
        ("position", "short", ((1, 1),)), ("claim", "long", ("long", "a", "m", "m", "b")),
    ),
)

# A point can be put on no circle through points of one line.
NEVER_ROW = ("x", ("middle", "a", "b", "m"))


def desk_with(*acts):
    desk = Desk()
    for act in acts:
        desk.do(act)
    return desk


def triangle():
    return desk_with(("sheet", TRIANGLE))


def claims(many):
    return tuple([("claim", "c%d" % k, ("same", "a", "a")) for k in range(many)])


def state(desk):
    """All that a desk tells of itself."""
    return desk.sheet(), desk.acts(), desk.work(), desk.marks(), [desk.since(name) for name in desk.marks()]


class ActsTest(unittest.TestCase):
    def refuses(self, desk, act, word):
        before = state(desk)
        self.assertEqual(desk.act_word(act), word, act)
        error = raised(desk.do, act)
        self.assertIs(type(error), BadAct, act)
        self.assertEqual(error.word, word)
        self.assertEqual(state(desk), before)

    def does(self, desk, act, sheet):
        many = len(desk.acts())
        acts = desk.acts()
        self.assertIsNone(desk.act_word(act), act)
        self.assertEqual(desk.do(act), many + 1)
        self.assertEqual(desk.sheet(), sheet)
        self.assertEqual(desk.acts(), acts + [act])

    def test_at_first(self):
        desk = Desk()
        self.assertEqual(state(desk), (((), (), ()), [], 0, [], []))
        self.assertEqual(desk.always(), [])

    def test_form(self):
        desk = triangle()
        for act in OTHER_KINDS + [
            "sheet", ("sheet",), ("sheet", SHEET, ()), ("point", "d"), ("point", ("d", ("free",))), ("put",),
            ("point", "d", ("free",), 0), ("put", PARTS[0], 0), ("put", "claim", "x", ("same", "a", "a")), ("drop",),
            ("drop", "line", "same"), ["drop", "line"], ("undo",), ("redo", 1), ("Sheet", SHEET), (("sheet",), SHEET),
            (["drop"], "line"), (None, "line"), (True, 1), (), nested(39), ({}, "line"), ("", "line"),
        ]:
            self.refuses(desk, act, "form")

    def test_sheet(self):
        self.does(Desk(), ("sheet", SHEET), SHEET)
        self.does(triangle(), ("sheet", SHEET), SHEET)
        self.does(triangle(), ("sheet", ((), (), ())), ((), (), ()))
        desk = triangle()
        for value in OTHER_KINDS + [
            (), ((), ()), [(), (), ()], ((), (), (), ()), ((), ROWS, ()), ((), (), PARTS), ((), [], ()),
            ((), (("a", ("at", 0)),), ()), ((), (), (("position", "p", ((2, 4),)),)), nested(37),
        ]:
            self.refuses(desk, ("sheet", value), "sheet")

    def test_sheets_that_are_too_great(self):
        ways = [("w0", (), tuple([("p%d" % k, ("free",)) for k in range(50)]), "p0")]
        for k in range(1, 4):
            ways.append(("w%d" % k, (), (("x", ("use", ways[-1][0], ())), ("y", ("use", ways[-1][0], ()))), "y"))
        sheet = (tuple(ways), (("a", ("use", "w3", ())),), ())
        desk = desk_with(("sheet", sheet))
        self.assertEqual(len(figure_of(desk.sheet())), 400)
        self.refuses(desk, ("point", "b", ("free",)), "great")
        self.refuses(desk, ("point", "b", ("use", "w0", ())), "great")
        # Ahead of its size a row is looked at.
        self.refuses(desk, ("point", "a", ("free",)), "point")
        self.refuses(desk, ("sheet", (sheet[0], sheet[1] + (("b", ("free",)),), ())), "great")
        self.refuses(desk, ("sheet", (sheet[0], sheet[1] + (("a", ("free",)),), ())), "sheet")
        no_step = (sheet[0] + (("none", ("p",), (), "p"),), sheet[1], ())
        desk.do(("sheet", no_step))
        self.does(desk, ("point", "b", ("use", "none", ("a",))), no_step[:1] + (sheet[1] + (("b", ("use", "none", ("a",))),), ()))

    def test_point(self):
        desk = triangle()
        for name, step in [("d", ("free",)), ("e", ("use", "half", ("c", "d"))), ("a1", ("meet", "a", "d", "c", "e"))]:
            ways, rows, parts = desk.sheet()
            self.does(desk, ("point", name, step), (ways, rows + ((name, step),), parts))
            self.assertIsNone(raised(check_sheet, desk.sheet()))
        for name in OTHER_KINDS + ["A", "a b", "abcdefghijklm", "2a", "c", "m", "e"]:
            if name != "at":
                self.refuses(desk, ("point", name, ("free",)), "point")
        for step in OTHER_KINDS + [
            ("free", 1), ["free"], ("at", 0), ("at", True, 0), ("on", "a", "x"), ("on", "a"), ("part", "a", "b", 1, 0),
            ("use", "none", ("a",)), ("use", "half", ("a",)), ("use", "half", ["a", "b"]), ("on", 0, 1), ("line", "a", "b", "c"),
            ("shift", "x", "a", "b"), ("use", "half", ("a", "x")),
        ]:
            self.refuses(desk, ("point", "x", step), "point")

    def test_the_parts_stay(self):
        # A part of the same name is no hindrance to a point.
        desk = triangle()
        ways, rows, parts = TRIANGLE
        self.does(desk, ("point", "up", ("free",)), (ways, rows + (("up", ("free",)),), parts))

    def test_put(self):
        desk = triangle()
        ways, rows, parts = TRIANGLE
        new = ("claim", "new", ("parallel", "a", "b", "f", "m"))
        self.does(desk, ("put", new), (ways, rows, parts + (new,)))
        # In the place of the part with its name, whatever sort that was.
        position = ("position", "line", ())
        self.does(desk, ("put", position), (ways, rows, (position,) + parts[1:] + (new,)))
        claim = ("claim", "flat", ("same", "a", "b"))
        self.does(desk, ("put", claim), (ways, rows, (position,) + parts[1:3] + (claim,) + parts[4:] + (new,)))
        self.does(desk, ("put", claim), (ways, rows, (position,) + parts[1:3] + (claim,) + parts[4:] + (new,)))
        for part in OTHER_KINDS + [
            (), ("claim", "x"), ("claim", "x", ("same", "a", "z")), ("claim", "x", ("same", "a", "b", "c")),
            ("claim", "X", ("same", "a", "b")), ("claim", 1, ("same", "a", "b")), ("position", "x", ((2, 4),)),
            ("position", "x", [(1, 2)]), ("position", "x", ((True, 1),)), ("part", "x", ()), ["position", "x", ()],
            ("claim", "x", ()), ("position", "x", (), ()), ("claim", "line", ("line", "a", "f", "x")), nested(37),
        ]:
            self.refuses(desk, ("put", part), "part")

    def test_many_parts(self):
        ways, rows, _ = TRIANGLE
        desk = desk_with(("sheet", (ways, rows, claims(29))))
        last = ("position", "last", ())
        self.does(desk, ("put", last), (ways, rows, claims(29) + (last,)))
        self.refuses(desk, ("put", ("position", "more", ())), "many")
        # What is no part is told ahead.
        self.refuses(desk, ("put", ("position", "more", None)), "part")
        other = ("position", "c3", ((1, 2),))
        self.does(desk, ("put", other), (ways, rows, claims(3) + (other,) + claims(29)[4:] + (last,)))
        desk = desk_with(("sheet", (ways, rows, claims(60))))
        self.refuses(desk, ("put", last), "many")
        desk.do(("drop", "c59"))
        self.refuses(desk, ("put", last), "many")
        self.assertIsNone(desk.act_word(("put", other)))

    def test_drop(self):
        desk = triangle()
        ways, rows, parts = TRIANGLE
        self.does(desk, ("drop", "same"), (ways, rows, parts[:1] + parts[2:]))
        self.does(desk, ("drop", "line"), (ways, rows, parts[2:]))
        for name in OTHER_KINDS + ["line", "a", "m", "half", ("up",), ["up"], "UP", "up "]:
            self.refuses(desk, ("drop", name), "name")
        for name in ("long", "up", "short", "flat"):
            desk.do(("drop", name))
        self.assertEqual(desk.sheet(), (ways, rows, ()))
        self.refuses(desk, ("drop", "up"), "name")


class UndoTest(unittest.TestCase):
    acts = (("sheet", TRIANGLE), ("drop", "same"), ("point", "d", ("free",)), ("put", ("position", "here", ())))

    def test_back_and_again(self):
        desk = Desk()
        sheets = [desk.sheet()]
        for act in self.acts:
            desk.do(act)
            sheets.append(desk.sheet())
        for many in (3, 2, 1, 0):
            self.assertEqual(desk.undo(), many)
            self.assertEqual(desk.sheet(), sheets[many])
            self.assertEqual(desk.acts(), list(self.acts[:many]))
        self.assertIs(type(raised(desk.undo)), NothingDone)
        self.assertEqual(desk.sheet(), ((), (), ()))
        for many in (1, 2, 3, 4):
            self.assertEqual(desk.redo(), many)
            self.assertEqual(desk.sheet(), sheets[many])
            self.assertEqual(desk.acts(), list(self.acts[:many]))
        self.assertIs(type(raised(desk.redo)), NothingDone)
        self.assertEqual(desk.acts(), list(self.acts))

    def test_nothing_done(self):
        desk = Desk()
        self.assertIs(type(raised(desk.undo)), NothingDone)
        self.assertIs(type(raised(desk.redo)), NothingDone)
        self.assertEqual(state(desk), state(Desk()))

    def test_what_takes_it_away(self):
        for act in [("drop", "up"), self.acts[2], self.acts[3]]:
            desk = desk_with(*self.acts)
            desk.undo()
            desk.undo()
            # Also an equal one.
            self.assertEqual(desk.do(act), 3)
            self.assertIs(type(raised(desk.redo)), NothingDone)
            self.assertEqual(desk.acts(), list(self.acts[:2]) + [act])

    def test_what_does_not(self):
        desk = desk_with(*self.acts)
        desk.undo()
        desk.undo()
        desk.undo()
        desk.redo()
        self.assertIsNotNone(raised(desk.do, ("drop", "nobody")))
        desk.mark("here")
        desk.answer("line")
        desk.holds_at("line", "up")
        desk.always()
        self.assertIsNotNone(raised(desk.answer, "nobody"))
        self.assertIsNotNone(raised(desk.since, "nobody"))
        desk.act_word(("drop", "up"))
        twin = desk.twin()
        twin.do(("drop", "up"))
        self.assertEqual(desk.redo(), 3)
        desk.mark("here")
        self.assertEqual(desk.redo(), 4)
        self.assertEqual(desk.acts(), list(self.acts))

    def test_an_act_that_could_not_be_done_now(self):
        # Each act is done again behind those that were done ahead of it.
        desk = desk_with(("sheet", TRIANGLE), ("drop", "up"))
        desk.undo()
        desk.undo()
        self.assertEqual(desk.act_word(("drop", "up")), "name")
        self.assertEqual((desk.redo(), desk.redo()), (1, 2))


class MarksTest(unittest.TestCase):
    def test_numbers(self):
        desk = triangle()
        self.assertIsNone(desk.mark("b"))
        self.assertEqual(desk.since("b"), 0)
        desk.do(("drop", "up"))
        desk.do(("drop", "flat"))
        self.assertEqual(desk.since("b"), 2)
        desk.mark("a")
        self.assertEqual(desk.marks(), ["a", "b"])
        for _ in range(3):
            desk.undo()
        self.assertEqual((desk.since("a"), desk.since("b")), (-3, -1))
        desk.redo()
        self.assertEqual((desk.since("a"), desk.since("b")), (-2, 0))

    def test_set_anew(self):
        desk = triangle()
        desk.mark("x")
        desk.do(("drop", "up"))
        desk.mark("x")
        self.assertEqual(desk.since("x"), 0)
        self.assertEqual(desk.marks(), ["x"])
        desk.undo()
        self.assertEqual(desk.since("x"), -1)
        desk.mark("x")
        self.assertEqual(desk.since("x"), 0)

    def test_unknown_ones(self):
        desk = triangle()
        desk.mark("x")
        for name in OTHER_KINDS + ["y", "up", ("x",), ["x"], {"x": 0}]:
            error = raised(desk.since, name)
            self.assertIs(type(error), UnknownName)
            self.assertIs(error.name, name)

    def test_names_ascend(self):
        desk = Desk()
        for name in ["b", "a10", "a2", "a", "z", "b"]:
            desk.mark(name)
        self.assertEqual(desk.marks(), ["a", "a10", "a2", "b", "z"])
        desk.marks().clear()
        self.assertEqual(len(desk.marks()), 5)


class QuestionsTest(unittest.TestCase):
    def asks(self, word, call, *told):
        error = raised(call, *told)
        self.assertIs(type(error), BadAsk, told)
        self.assertEqual(error.word, word, told)

    def test_answers(self):
        desk = triangle()
        self.assertEqual(desk.answer("line"), ("always",))
        self.assertEqual(desk.answer("long"), ("always",))
        answer = desk.answer("same")
        self.assertIsNone(judge_answer(figure_of(TRIANGLE), claim_laid(TRIANGLE, "same"), answer))
        self.assertEqual(answer[0], "not")
        self.assertEqual(desk.answer("same"), answer)
        desk.do(("point",) + NEVER_ROW)
        self.assertEqual(desk.answer("line"), ("never", 5))
        self.assertEqual(desk.answer("same"), ("never", 5))

    def test_words_of_answers(self):
        desk = triangle()
        for name in OTHER_KINDS + ["a", "half", "nobody", ("line",), ["line"], "line "]:
            self.asks("name", desk.answer, name)
        for name in ("up", "flat", "short"):
            self.asks("sort", desk.answer, name)

    def test_holds_at(self):
        desk = triangle()
        for claim, position, whether in [
            ("line", "up", True), ("line", "flat", True), ("same", "up", False), ("same", "flat", True), ("long", "up", True),
        ]:
            self.assertIs(desk.holds_at(claim, position), whether)

    def test_words_of_holds_at(self):
        desk = triangle()
        self.asks("name", desk.holds_at, "nobody", "up")
        self.asks("name", desk.holds_at, "nobody", "nobody")
        self.asks("name", desk.holds_at, "nobody", "line")
        self.asks("sort", desk.holds_at, "up", "nobody")
        self.asks("sort", desk.holds_at, "up", "line")
        self.asks("sort", desk.holds_at, "short", "short")
        self.asks("name", desk.holds_at, "line", "nobody")
        self.asks("name", desk.holds_at, "line", "a")
        self.asks("sort", desk.holds_at, "line", "same")
        self.asks("sort", desk.holds_at, "line", "line")
        self.asks("fit", desk.holds_at, "line", "short")
        for name in OTHER_KINDS + [["line"]]:
            self.asks("name", desk.holds_at, name, "up")
            self.asks("name", desk.holds_at, "line", name)
        desk.do(("point", "h", ("foot", "a", "c", "f")))
        self.asks("built", desk.holds_at, "line", "flat")
        self.asks("fit", desk.holds_at, "line", "short")
        self.asks("sort", desk.holds_at, "line", "same")
        self.assertIs(desk.holds_at("line", "up"), True)
        # Also if the claim is about points ahead of the step that can't be done.
        self.asks("built", desk.holds_at, "same", "flat")
        desk.do(("point", "g", ("free",)))
        self.asks("fit", desk.holds_at, "line", "flat")

    def test_where(self):
        desk = triangle()
        self.assertEqual(desk.where("a", "up"), at(0, 0)[0])
        self.assertEqual(desk.where("c", "up"), ((1, 2), (3, 1)))
        self.assertEqual(desk.where("f", "up"), ((1, 2), (0, 1)))
        self.assertEqual(desk.where("m", "flat"), at(2, 0)[0])
        self.assertEqual(type(desk.where("m", "up")), tuple)

    def test_words_of_where(self):
        desk = triangle()
        for name in OTHER_KINDS + ["line", "up", "half", "x", ["a"]]:
            if name != "a":
                self.asks("name", desk.where, name, "up")
                self.asks("name", desk.where, name, "line")
                self.asks("name", desk.where, "a", name) if name not in ("line", "up") else None
        self.asks("sort", desk.where, "a", "line")
        self.asks("fit", desk.where, "a", "short")
        self.asks("name", desk.where, "x", "short")
        desk.do(("point", "h", ("foot", "a", "c", "f")))
        self.asks("built", desk.where, "a", "flat")
        self.asks("name", desk.where, "b1", "flat")
        self.assertEqual(desk.where("h", "up"), at("1/2", 0)[0])

    def test_points_and_parts_apart(self):
        desk = triangle()
        desk.do(("point", "up", ("free",)))
        desk.do(("put", ("position", "a", ((1, 1), (2, 1), (3, 1), (4, 1)))))
        self.assertEqual(desk.where("up", "a"), at(3, 4)[0])
        self.assertEqual(desk.where("a", "a"), at(0, 0)[0])
        self.asks("sort", desk.answer, "a")
        self.asks("fit", desk.holds_at, "line", "up")

    def test_always(self):
        desk = triangle()
        self.assertEqual(desk.always(), ["line", "long"])
        desk.do(("put", ("claim", "aa", ("same", "m", "m"))))
        self.assertEqual(desk.always(), ["line", "long", "aa"])
        desk.do(("drop", "line"))
        self.assertEqual(desk.always(), ["long", "aa"])
        self.assertIs(type(desk.always()), list)
        for name in ("long", "aa", "same"):
            desk.do(("drop", name))
        self.assertEqual(desk.always(), [])
        desk.do(("point",) + NEVER_ROW)
        self.asks("never", desk.always)

    def test_what_always_holds_holds_everywhere(self):
        desk = triangle()
        for name in desk.always():
            for position in ("up", "flat"):
                self.assertIs(desk.holds_at(name, position), True)
            self.assertEqual(desk.answer(name), ("always",))

    def test_too_great(self):
        rows = tuple([("p%d" % k, ("free",)) for k in range(4)])
        rows = rows + (("q", ("middle", "p0", "p1", "p2")),)
        parts = (
            ("claim", "small", ("same", "p0", "p1")), ("claim", "big", ("long", "q", "p0", "q", "p1")),
            ("position", "here", ((0, 1), (0, 1), (4, 1), (0, 1), (0, 1), (4, 1), (1, 1), (1, 1))),
        )
        desk = desk_with(("sheet", ((), rows, parts)))
        self.assertEqual(desk.answer("small")[0], "not")
        self.assertIs(type(raised(desk.answer, "big")), TooGreat)
        self.assertIs(type(raised(desk.always)), TooGreat)
        self.assertIs(desk.holds_at("big", "here"), True)
        self.assertEqual(desk.where("q", "here"), at(2, 2)[0])
        self.assertEqual(desk.work(), 1)
        # A claim that is too great is told behind a figure that can be built nowhere.
        desk.do(("point", "x", ("foot", "q", "p0", "p0")))
        self.asks("never", desk.always)
        self.assertIs(type(raised(desk.answer, "big")), TooGreat)
        self.assertEqual(desk.answer("small"), ("never", 5))
        # And a figure that is so by itself ahead of it.
        desk.do(("point", "y", ("middle", "q", "p1", "p3")))
        desk.do(("point", "z", ("foot", "p0", "y", "q")))
        self.assertIs(type(raised(desk.always)), TooGreat)
        self.assertIs(type(raised(desk.answer, "small")), TooGreat)
        self.asks("built", desk.where, "q", "here")
        # The name and the sort come ahead of that.
        self.asks("name", desk.answer, "nobody")
        self.asks("sort", desk.answer, "here")
        self.assertEqual(desk.work(), 2)


class WorkTest(unittest.TestCase):
    def test_the_same_claim_twice(self):
        desk = triangle()
        for many, name in enumerate(["line", "same", "long"]):
            self.assertEqual(desk.work(), many)
            first = desk.answer(name)
            self.assertEqual(desk.work(), many + 1)
            self.assertEqual(desk.answer(name), first)
            self.assertEqual(desk.work(), many + 1)

    def test_claims_that_are_alike_by_their_numbers(self):
        desk = triangle()
        desk.answer("line")
        desk.do(("point", "a2", ("use", "half", ("a", "b"))))
        desk.answer("line")
        self.assertEqual(desk.work(), 2)
        desk.undo()
        desk.answer("line")
        self.assertEqual(desk.work(), 2)
        desk.do(("put", ("claim", "alike", ("line", "a", "f", "m"))))
        desk.answer("alike")
        self.assertEqual(desk.work(), 2)
        # Other names for the points, and a use laid out, make no other figure.
        ways, rows, _ = TRIANGLE
        rows = tuple([("n" + name, step[:1] + tuple([
            "n" + part if isinstance(part, str) else part for part in step[1:]
        ])) for name, step in rows[:4]]) + (("nm", ("part", "na", "nb", 1, 2)),)
        desk.do(("sheet", ((), rows, (("claim", "other", ("line", "na", "nf", "nm")),))))
        self.assertEqual(desk.answer("other"), ("always",))
        self.assertEqual(desk.work(), 2)
        desk.do(("put", ("claim", "other", ("line", "nf", "na", "nm"))))
        desk.answer("other")
        self.assertEqual(desk.work(), 3)

    def test_questions_that_do_not_count(self):
        desk = triangle()
        desk.always()
        desk.holds_at("line", "up")
        desk.where("a", "up")
        for name in ("nobody", "up", None):
            self.assertIsNotNone(raised(desk.answer, name))
        self.assertEqual(desk.work(), 0)
        desk.do(("point",) + NEVER_ROW)
        desk.answer("line")
        self.assertEqual(desk.work(), 1)

    def test_twins(self):
        desk = triangle()
        desk.answer("line")
        twin = desk.twin()
        self.assertEqual(twin.work(), 1)
        twin.answer("line")
        self.assertEqual((desk.work(), twin.work()), (1, 1))
        twin.answer("same")
        self.assertEqual((desk.work(), twin.work()), (1, 2))
        desk.answer("same")
        desk.answer("long")
        self.assertEqual((desk.work(), twin.work()), (3, 2))


class TwinsTest(unittest.TestCase):
    def test_as_it_is(self):
        desk = desk_with(*UndoTest.acts)
        desk.mark("m")
        desk.undo()
        desk.answer("line")
        twin = desk.twin()
        self.assertIsInstance(twin, Desk)
        self.assertEqual(state(twin), state(desk))
        self.assertEqual(twin.redo(), 4)
        self.assertEqual(desk.acts(), list(UndoTest.acts[:3]))
        self.assertEqual(desk.redo(), 4)

    def test_their_own_way(self):
        desk = desk_with(*UndoTest.acts)
        desk.undo()
        twin = desk.twin()
        before = state(desk)
        twin.do(("drop", "up"))
        twin.mark("n")
        twin.answer("long")
        twin.undo()
        twin.undo()
        self.assertEqual(state(desk), before)
        self.assertEqual(desk.redo(), 4)
        other = state(twin)
        desk.do(("drop", "flat"))
        desk.mark("k")
        desk.undo()
        self.assertEqual(state(twin), other)
        self.assertEqual(twin.redo(), 3)
        self.assertEqual(twin.redo(), 4)
        self.assertIs(type(raised(twin.redo)), NothingDone)


class KeepingTest(unittest.TestCase):
    def test_lists_of_the_caller(self):
        desk = triangle()
        desk.mark("m")
        for told in (desk.acts(), desk.marks(), desk.always()):
            told.append("more")
            told.reverse()
        self.assertEqual(desk.acts(), [("sheet", TRIANGLE)])
        self.assertEqual(desk.marks(), ["m"])
        self.assertEqual(desk.always(), ["line", "long"])
        self.assertIsNot(desk.acts(), desk.acts())

    def test_acts_with_lists_are_none(self):
        # What could be changed afterwards is no act, be it deep within.
        rows = [("a", ("free",))]
        desk = Desk()
        for act in [
            ["sheet", ((), (), ())], ("sheet", ((), rows, ())), ("sheet", ((), (rows[0], ["b", ("free",)]), ())),
            ("put", ("position", "p", [(1, 2)])), ("put", ("position", "p", ([1, 2],))), ("point", "a", ["free"]),
        ]:
            self.assertIsNotNone(desk.act_word(act))
        self.assertEqual(desk.sheet(), ((), (), ()))

    def test_acts_as_passed(self):
        desk = Desk()
        for act in UndoTest.acts:
            desk.do(act)
        for kept, act in zip(desk.acts(), UndoTest.acts):
            self.assertIs(kept, act)


class ReplayTest(unittest.TestCase):
    def some_act(self, source):
        name = source.choice("abcdef")
        points = [source.choice("abcdef") for _ in range(4)]
        return source.choice([
            ("sheet", source.choice([TRIANGLE, SHEET, ((), (), ()), None])),
            ("point", name, source.choice([("free",), ("at", source.randrange(5), 1), ("foot", *points[:3]), ("on", *points[:2])])),
            ("point", name, source.choice([("meet", *points), ("use", "half", tuple(points[:2])), ("part", *points[:2], 1, 2)])),
            ("put", ("claim", name, source.choice([("line", *points[:3]), ("same", *points[:2]), ("long", *points)]))),
            ("put", ("position", name, tuple([(source.randrange(4), 1) for _ in range(source.randrange(4))]))),
            ("drop", name), ("drop", "line"),
        ])

    def asked(self, desk):
        """All that is told of what is on a desk."""
        ways, rows, parts = desk.sheet()
        names = [row[0] for row in rows] + [part[1] for part in parts] + ["nobody"]
        found = [raised(desk.always) is None and desk.always()]
        for one in names:
            for other in names:
                for call in (desk.holds_at, desk.where):
                    error = raised(call, one, other)
                    found.append(call(one, other) if error is None else (type(error), vars(error)))
        return found

    def test_as_a_new_desk(self):
        source = random.Random(379)
        undone = 0
        for _ in range(25):
            desk, done, again = Desk(), [], []
            for step in range(40):
                what = source.random()
                if what < 0.6:
                    act = self.some_act(source)
                    word = desk.act_word(act)
                    self.assertEqual(raised(desk.do, act) is None, word is None)
                    if word is None:
                        done, again = done + [act], []
                elif what < 0.75:
                    self.assertEqual(raised(desk.undo) is None, done != [])
                    if done:
                        done, again = done[:-1], again + [done[-1]]
                        undone += 1
                elif what < 0.85:
                    self.assertEqual(raised(desk.redo) is None, again != [])
                    if again:
                        done, again = done + [again[-1]], again[:-1]
                elif what < 0.95:
                    desk.mark(source.choice("xy"))
                else:
                    desk = desk.twin()
                self.assertEqual(desk.acts(), done)
            other = desk_with(*done)
            self.assertEqual(desk.sheet(), other.sheet())
            self.assertIsNone(raised(check_sheet, desk.sheet()))
            self.assertEqual(self.asked(desk), self.asked(other))
            for part in desk.sheet()[2]:
                if part[0] == "claim" and raised(desk.answer, part[1]) is None:
                    self.assertEqual(desk.answer(part[1])[0], other.answer(part[1])[0])
        self.assertGreater(undone, 50)


class LimitsTest(unittest.TestCase):
    def test_great_sheets(self):
        ways = [("w0", ("p", "q"), (("m", ("part", "p", "q", 1, 2)),), "m")]
        for k in range(1, 30):
            # Ways that only pick a point, and use one another ever so often.
            rows = tuple([("r%d" % j, ("use", "none", ("p", "q"))) for j in range(60)]) if k > 1 else ()
            ways.append(("none" if k == 1 else "w%d" % k, ("p", "q"), rows, "p"))
        desk = desk_with(("sheet", (tuple(ways), (), ())))
        desk.do(("point", "a", ("at", 0, 0)))
        desk.do(("point", "b", ("at", 1, 5)))
        for k in range(198):
            desk.do(("point", "x%d" % k, ("use", "w29", ("a", "b")) if k % 9 else ("use", "w0", ("a", "b"))))
        for k in range(30):
            desk.do(("put", ("claim", "c%d" % k, ("same", "a", "x%d" % k))))
        desk.do(("put", ("claim", "c7", ("line", "a", "b", "x9"))))
        desk.do(("put", ("position", "c8", ())))
        self.assertEqual(len(desk.acts()), 1 + 2 + 198 + 30 + 2)
        self.assertEqual(len(figure_of(desk.sheet())), 24)
        self.assertEqual(desk.where("x9", "c8"), at("1/2", "5/2")[0])
        self.assertEqual(len(desk.always()), 30 - 1 - 4 + 0)
        while desk.acts():
            desk.undo()
        while raised(desk.redo) is None:
            pass
        self.assertEqual(len(desk.sheet()[1]), 200)
