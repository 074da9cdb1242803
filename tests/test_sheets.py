import unittest

from figureclaims.errors import UnknownName
from figureclaims.sheets import check_sheet, names_of, part_named
from figureclaims.words import claim_points, step_points
from tests.helpers import OTHER_KINDS, nested, parts_of, path_of, put, raised

HALF = ("half", ("a", "b"), (("m", ("part", "a", "b", 1, 2)),), "m")
NONE = ("none", ("a",), (), "a")
TWICE = ("twice", ("a", "b"), (("c", ("use", "half", ("a", "b"))), ("d", ("use", "half", ("c", "b")))), "d")
ROWS = (
    ("p", ("at", 0, -3)),
    ("q", ("free",)),
    ("r", ("on", "p", "q")),
    ("s", ("use", "twice", ("p", "p"))),
    ("t", ("part", "s", "q", -7, 10)),
    ("u", ("use", "none", ("t",))),
    ("v", ("meet", "p", "q", "r", "u")),
)
PARTS = (
    ("claim", "c", ("line", "p", "q", "r")),
    ("position", "d", ((0, 1), (-1, 2))),
    ("position", "p", ()),
    ("claim", "e", ("same", "v", "v")),
)
SHEET = ((HALF, NONE, TWICE), ROWS, PARTS)

STEP_WORDS = ["at", "free", "on", "round", "part", "quarter", "shift", "foot", "mirror", "middle",
              "other", "second", "inverse", "meet"]
CLAIM_WORDS = ["same", "line", "circle", "parallel", "upright", "long", "area", "angle", "ratio"]


def step_of(word, *points):
    behind = {"at": (4, -4), "part": (-2, 3)}
    return (word,) + points[:step_points(word)] + behind.get(word, ())


def with_row(*step):
    """A sheet with the points a, b and a third row that has this step."""
    return ((), (("a", ("free",)), ("b", ("at", 1, 2)), ("c", step)), ())


def with_claim(*claim):
    return ((), (("a", ("free",)), ("b", ("at", 1, 2))), (("claim", "n", claim),))


class CheckSheetTest(unittest.TestCase):
    def is_wrong(self, value, *path):
        self.assertEqual(path_of(check_sheet, value), path, value)

    def is_right(self, value):
        self.assertIsNone(check_sheet(value))

    def test_right_ones(self):
        self.is_right(SHEET)
        self.is_right(((), (), ()))
        for word in STEP_WORDS:
            self.is_right(with_row(*step_of(word, "a", "b", "b", "a")))
        for word in CLAIM_WORDS:
            self.is_right(with_claim(word, *("abbaabba"[:claim_points(word)])))

    def test_right_names(self):
        rows = (("at", ("free",)), ("use", ("on", "at", "at")), ("a23456789012", ("free",)))
        parts = (("claim", "claim", ("same", "use", "at")), ("position", "use", ()))
        self.is_right(((("way", (), rows, "use"),), rows, parts))

    def test_what_is_no_sheet_at_all(self):
        for value in OTHER_KINDS + [(), ((), ()), ((), (), (), ()), [(), (), ()], nested(40)]:
            self.is_wrong(value)

    def test_each_part_that_is_none(self):
        words = {(1, k, 1, 0) for k in range(7)} | {(2, k, 0) for k in range(4)}
        words |= {(2, 0, 2, 0), (2, 3, 2, 0), (0, 0, 2, 0, 1, 0), (0, 2, 2, 0, 1, 0), (0, 2, 2, 1, 1, 0)}
        for path, part in parts_of(SHEET):
            for other in [None, True, {}, [], -32767, "", "A", [nested(30)]]:
                if isinstance(other, int) and isinstance(part, int) and not isinstance(other, bool):
                    continue
                wrong = put(SHEET, path, other)
                if path[:-1] and path[:-1][:1] == (2,) and len(path) == 5 and path[1] == 1:
                    # Of a fraction nothing is looked at apart.
                    expected = path[:-1]
                else:
                    expected = path[:-1] if path in words else path
                self.assertEqual(path_of(check_sheet, wrong), expected, wrong)

    def test_lists_for_tuples(self):
        for path, part in parts_of(SHEET):
            if isinstance(part, tuple):
                self.is_wrong(put(SHEET, path, list(part)), *path)

    def test_tuples_of_other_lengths(self):
        for path, part in parts_of(SHEET):
            counted = isinstance(part, tuple) and not (
                path in ((0,), (1,), (2,)) or (path[:1] == (0,) and path[2:] in ((1,), (2,)))
                or (path[:1] == (2,) and path[2:] == (2,) and path[1] in (1, 2)))
            if counted:
                self.is_wrong(put(SHEET, path, part + (part[-1:] or (0,))), *path)
                self.is_wrong(put(SHEET, path, part[:-1]), *path)

    def test_ways(self):
        one = ("w", ("a",), (("m", ("free",)),), "m")
        self.is_right(((one,), (), ()))
        self.is_wrong(((one, one), (), ()), 0, 1, 0)
        self.is_wrong(((one, put(one, (0,), "v"), one), (), ()), 0, 2, 0)
        self.is_wrong(((put(one, (0,), "Way"),), (), ()), 0, 0, 0)
        self.is_wrong(((put(one, (0,), "w234567890123"),), (), ()), 0, 0, 0)
        self.is_wrong(((put(one, (1,), ("a", "b", "a", "b")),), (), ()), 0, 0, 1, 2)
        self.is_wrong(((put(one, (1,), ("a", "b", 1)),), (), ()), 0, 0, 1, 2)
        self.is_wrong(((put(one, (1,), "a"),), (), ()), 0, 0, 1)
        self.is_wrong(((put(one, (2, 0, 0), "a"),), (), ()), 0, 0, 2, 0, 0)
        self.is_wrong(((put(one, (2,), one[2] + one[2]),), (), ()), 0, 0, 2, 1, 0)
        self.is_wrong(((put(one, (3,), "b"),), (), ()), 0, 0, 3)
        self.is_right(((put(one, (3,), "a"),), (), ()))
        self.is_wrong(((put(one, (2,), ()),), (), ()), 0, 0, 3)

    def test_names_in_ways(self):
        rows = (("m", ("on", "a", "m")),)
        self.is_wrong(((("w", ("a",), rows, "m"),), (), ()), 0, 0, 2, 0, 1, 2)
        rows = (("m", ("on", "a", "n")), ("n", ("free",)))
        self.is_wrong(((("w", ("a",), rows, "m"),), (), ()), 0, 0, 2, 0, 1, 2)
        # Names of another way, and of the sheet's rows, are not there.
        self.is_wrong((((HALF), ("w", (), (), "m")), (), ()), 0, 1, 3)
        self.is_wrong(((HALF, ("w", (), (("x", ("on", "a", "a")),), "x")), (), ()), 0, 1, 2, 0, 1, 1)
        self.is_wrong(((("w", (), (), "p"),), (("p", ("free",)),), ()), 0, 0, 3)
        self.is_wrong(((HALF,), (("p", ("on", "a", "b")),), ()), 1, 0, 1, 1)
        # A way may have a name that a point has, too.
        self.is_right(((("w", ("w",), (), "w"),), (("w", ("free",)),), (("position", "w", ()),)))

    def test_uses(self):
        use = (("p", ("free",)), ("q", ("use", "half", ("p", "p"))))
        self.is_right(((HALF,), use, ()))
        self.is_wrong(((), use, ()), 1, 1, 1, 1)
        self.is_wrong(((HALF,), put(use, (1, 1, 1), "p"), ()), 1, 1, 1, 1)
        self.is_wrong(((HALF,), put(use, (1, 1, 1), 3), ()), 1, 1, 1, 1)
        self.is_wrong(((HALF,), put(use, (1, 1, 1), ["half"]), ()), 1, 1, 1, 1)
        for names in [(), ("p",), ("p", "p", "p"), ["p", "p"], "pp", None, ("p", "p", "x")[:1]]:
            self.is_wrong(((HALF,), put(use, (1, 1, 2), names), ()), 1, 1, 1, 2)
        self.is_wrong(((HALF,), put(use, (1, 1, 2, 0), "q"), ()), 1, 1, 1, 2, 0)
        self.is_wrong(((HALF,), put(use, (1, 1, 2, 1), "x"), ()), 1, 1, 1, 2, 1)
        self.is_wrong(((HALF,), put(use, (1, 1, 2, 1), 0), ()), 1, 1, 1, 2, 1)
        self.is_wrong(((HALF,), put(use, (1, 1), ("use", "half")), ()), 1, 1, 1)
        self.is_wrong(((HALF,), put(use, (1, 1), ("use", "half", "p", "p")), ()), 1, 1, 1)
        # The way's name is looked at before the names, and these before there being any.
        self.is_wrong(((HALF,), put(use, (1, 1), ("use", "x", None)), ()), 1, 1, 1, 1)
        self.is_wrong(((HALF,), put(use, (1, 1), ("use", "half", (None,))), ()), 1, 1, 1, 2)

    def test_uses_in_ways(self):
        self.is_wrong(((TWICE, HALF), (), ()), 0, 0, 2, 0, 1, 1)
        own = ("w", ("a",), (("m", ("use", "w", ("a",))),), "m")
        self.is_wrong(((own,), (), ()), 0, 0, 2, 0, 1, 1)
        self.is_wrong(((HALF, put(TWICE, (2, 1, 1, 2), ("c",))), (), ()), 0, 1, 2, 1, 1, 2)
        self.is_wrong(((HALF, put(TWICE, (2, 1, 1, 2, 1), "m")), (), ()), 0, 1, 2, 1, 1, 2, 1)

    def test_rows(self):
        self.is_wrong(((), (("p", ("free",)), ("p", ("free",))), ()), 1, 1, 0)
        self.is_wrong(((), (("p", ("free",)), ("q", ("free",)), ("p", ("x",))), ()), 1, 2, 0)
        self.is_wrong(((), (("P", ("free",)),), ()), 1, 0, 0)
        self.is_wrong(((), (("p",),), ()), 1, 0)
        self.is_wrong(((), (["p", ("free",)],), ()), 1, 0)
        self.is_wrong(((), "abc", ()), 1)
        self.is_wrong(((), ("ab",), ()), 1, 0)

    def test_each_step_word(self):
        for word in STEP_WORDS:
            step = step_of(word, "a", "b", "a", "b")
            for k in range(1, 1 + step_points(word)):
                for other in ["c", "d", "", 0, None, True, ("a",), ["a"], {}, nested(35)]:
                    self.is_wrong(with_row(*put(step, (k,), other)), 1, 2, 1, k)
            self.is_wrong(with_row(*step, "a"), 1, 2, 1)
            self.is_wrong(with_row(*step[:-1]), 1, 2, 1)
            self.is_wrong(with_row(word.upper(), *step[1:]), 1, 2, 1)
        for word in ["line", "use", "", None, 0, ["at"], ("at",), {}]:
            self.is_wrong(with_row(word, "a", "b"), *((1, 2, 1, 1) if word == "use" else (1, 2, 1)))
        for step in [None, "free", ["free"], {}, 1, True, ()]:
            self.is_wrong(((), (("a", step),), ()), 1, 0, 1)

    def test_integers_of_steps(self):
        for other in [None, True, False, "1", (1,), [1], (1, 1), {}]:
            self.is_wrong(with_row("at", other, 2), 1, 2, 1, 1)
            self.is_wrong(with_row("at", 2, other), 1, 2, 1, 2)
            self.is_wrong(with_row("part", "a", "b", other, 2), 1, 2, 1, 3)
            self.is_wrong(with_row("part", "a", "b", 2, other), 1, 2, 1, 4)
        for below in [0, -1, -10 ** 39]:
            self.is_wrong(with_row("part", "a", "b", 1, below), 1, 2, 1, 4)
        for step in [("at", 0, -10 ** 39), ("part", "a", "b", 2, 4), ("part", "a", "a", -6, 1),
                     ("part", "a", "b", 0, 10 ** 39)]:
            self.is_right(with_row(*step))

    def test_claims(self):
        for word in CLAIM_WORDS:
            claim = (word,) + tuple("abbaabba"[:claim_points(word)])
            for k in range(1, len(claim)):
                for other in ["c", "n", "", 0, None, True, ("a",), ["a"], {}]:
                    self.is_wrong(with_claim(*put(claim, (k,), other)), 2, 0, 2, k)
            self.is_wrong(with_claim(*claim, "a"), 2, 0, 2)
            self.is_wrong(with_claim(*claim[:-1]), 2, 0, 2)
            self.is_wrong(with_claim(word + "s", *claim[1:]), 2, 0, 2)
        for word in ["meet", "claim", "", None, 0, ["same"], ("same",), {}]:
            self.is_wrong(with_claim(word, "a", "b"), 2, 0, 2)
        self.is_wrong(with_claim(), 2, 0, 2)
        self.is_wrong(((), (), (("claim", "n", "same"),)), 2, 0, 2)

    def test_claims_name_the_rows_alone(self):
        rows = (("p", ("free",)), ("q", ("use", "half", ("p", "p"))))
        self.is_wrong(((HALF,), rows, (("claim", "n", ("same", "p", "m")),)), 2, 0, 2, 2)
        self.is_right(((HALF,), rows, (("claim", "n", ("same", "q", "p")),)))

    def test_positions(self):
        def with_numbers(numbers):
            return ((), (), (("position", "n", numbers),))
        self.is_right(with_numbers(()))
        self.is_right(with_numbers(((1, 2),) * 60))
        for numbers in [None, [], [(1, 2)], "12", 1, {}]:
            self.is_wrong(with_numbers(numbers), 2, 0, 2)
        for number in [None, 1, True, [1, 2], (2, 4), (1, 0), (0, 2), (1, -1), (True, 1), (1,), (1, 2, 3), ()]:
            self.is_wrong(with_numbers(((0, 1), (1, 2), number, None)), 2, 0, 2, 2)

    def test_parts(self):
        part = ("position", "n", ())
        self.is_wrong(((), (), (part, part)), 2, 1, 1)
        self.is_wrong(((), (("n", ("free",)),), (part, ("claim", "n", ("same", "n", "n")))), 2, 1, 1)
        self.is_wrong(((), (), (put(part, (1,), "0n"),)), 2, 0, 1)
        for word in ["point", "", None, 0, ["claim"], ("claim",), "Claim"]:
            self.is_wrong(((), (), (put(part, (0,), word),)), 2, 0)
        self.is_wrong(((), (), part), 2, 0)
        self.is_wrong(((), (), (part + (1,),)), 2, 0)

    def test_the_first_of_several_faults(self):
        self.is_wrong(([], None, None), 0)
        self.is_wrong(((), None, None), 1)
        self.is_wrong(((("w", None, None, None),), None, None), 0, 0, 1)
        self.is_wrong(((("W", None, None, None),), None, None), 0, 0, 0)
        self.is_wrong(((("w", ("a", "a"), None, None),), None, None), 0, 0, 1, 1)
        self.is_wrong(((("w", (), (("m", ("x",)),), None),), None, None), 0, 0, 2, 0, 1)
        self.is_wrong(((), (("p", ("on", "x", "y")), None), None), 1, 0, 1, 1)
        self.is_wrong(((), (("p", ("part", "x", "y", None, 0)),), None), 1, 0, 1, 1)
        self.is_wrong(with_row("part", "a", "b", None, 0), 1, 2, 1, 3)
        self.is_wrong(with_row("part", "a", "c", None, 0), 1, 2, 1, 2)
        self.is_wrong(((), (("0", None),), None), 1, 0, 0)
        self.is_wrong(((), (), (("claim", "0", None), None)), 2, 0, 1)
        self.is_wrong(((), (), (("claim", "n", ("line", "a", "b")), None)), 2, 0, 2)
        self.is_wrong(((), (), (("position", "n", ((1, 0), None)), None)), 2, 0, 2, 0)

    def test_great_sheets(self):
        rows = tuple([("p%d" % k, ("free",)) for k in range(20000)])
        self.is_right(((), rows, ()))
        self.is_wrong(((), rows + (("p0", ("free",)),), ()), 1, 20000, 0)


class PartsTest(unittest.TestCase):
    def test_part_named(self):
        for part in PARTS:
            self.assertIs(part_named(SHEET, part[1]), part)

    def test_unknown_names(self):
        for name in ["q", "half", "", "x"] + OTHER_KINDS + [("c",), ["c"], {"c": 1}]:
            error = raised(part_named, SHEET, name)
            self.assertIs(type(error), UnknownName)
            self.assertIs(error.name, name)

    def test_names_of(self):
        self.assertEqual(names_of(SHEET, "claim"), ["c", "e"])
        self.assertEqual(names_of(SHEET, "position"), ["d", "p"])
        self.assertEqual(names_of(((), (), ()), "claim"), [])
        self.assertIsNot(names_of(SHEET, "claim"), names_of(SHEET, "claim"))
