import random
import unittest

from figureclaims.console import Console
from figureclaims.desk import Desk
from figureclaims.sheettexts import sheet_text
from tests.helpers import raised
from tests.test_desk import NEVER_ROW, TRIANGLE, state
from tests.test_sheets import SHEET
from tests.test_sheettexts import ALL, PART, POINT, TEXT, first_wrong, one_of, row_of

WORDS = {
    "drop": 1, "undo": 0, "redo": 0, "mark": 1, "since": 1, "answer": 1, "at": 2, "where": 2, "always": 0,
    "points": 0, "parts": 0,
}
LINE = one_of(ALL, POINT, PART, *[row_of(word, *["WORD"] * many, ";") for word, many in WORDS.items()])

LINES = [
    "sheet { way w a { point b part a a 1/2; give b; } point p at 0 -3; claim c same p p; position q -1/2, 3; }",
    "point d part a b -1/2;", "point e use half a b ;", "claim new circle a b c f;", "position here 1, -2/3, 0;",
    "position none;", "drop up;", "undo ;", "redo ;", "mark m ;", "since m ;", "answer line ;", "at line up ;",
    "where f up ;", "always ;", "points ;", "parts ;",
]


def triangle():
    desk = Desk()
    desk.do(("sheet", TRIANGLE))
    return desk, Console(desk)


class ActsTest(unittest.TestCase):
    def test_sheets(self):
        desk, console = triangle()
        self.assertEqual(console.answer(TEXT), "done")
        self.assertEqual(desk.sheet(), SHEET)
        self.assertEqual(desk.acts(), [("sheet", TRIANGLE), ("sheet", SHEET)])
        self.assertEqual(console.answer("sheet{}"), "done")
        self.assertEqual(desk.sheet(), ((), (), ()))
        self.assertEqual(console.answer(sheet_text(TRIANGLE)), "done")
        self.assertEqual(desk.sheet(), TRIANGLE)

    def test_what_is_told_but_is_none(self):
        desk, console = triangle()
        for line, answer in [
            ("sheet { point a at 0 0; point a free; }", "no sheet"), ("sheet { point a on b b; }", "no sheet"),
            ("sheet { position p 2/4; }", "no sheet"), ("sheet { position p 1/0; }", "no sheet"),
            ("sheet { point a free; point b part a a 1/0; }", "no sheet"),
            ("point a free;", "no point"), ("point d on a x;", "no point"), ("point d part a b 1/0;", "no point"),
            ("point d use none a;", "no point"), ("point d use half a;", "no point"), ("point d use half;", "no point"),
            ("claim c line a b x;", "no part"), ("position p 2/4;", "no part"), ("position p 1, 3/0;", "no part"),
            ("drop a;", "no name"), ("drop nobody;", "no name"),
        ]:
            before = state(desk)
            self.assertEqual(console.answer(line), answer, line)
            self.assertEqual(state(desk), before)

    def test_points(self):
        desk, console = triangle()
        self.assertEqual(console.answer("point d part a c -1/2 ;"), "done")
        self.assertEqual(console.answer("point e use half c d;"), "done")
        self.assertEqual(console.answer("point at at -0 7;"), "no 13")
        self.assertEqual(console.answer("point at at -1 7;"), "done")
        self.assertEqual(desk.acts()[1:], [
            ("point", "d", ("part", "a", "c", -1, 2)), ("point", "e", ("use", "half", ("c", "d"))),
            ("point", "at", ("at", -1, 7)),
        ])
        self.assertEqual([row[0] for row in desk.sheet()[1]][5:], ["d", "e", "at"])

    def test_parts(self):
        desk, console = triangle()
        self.assertEqual(console.answer("claim up circle a b c f ;"), "done")
        self.assertEqual(console.answer("position new 1 , - 2/3;"), "done")
        self.assertEqual(console.answer("position;"), "no 8")
        self.assertEqual(console.answer("position position;"), "done")
        self.assertEqual(desk.acts()[1:], [
            ("put", ("claim", "up", ("circle", "a", "b", "c", "f"))), ("put", ("position", "new", ((1, 1), (-2, 3)))),
            ("put", ("position", "position", ())),
        ])
        self.assertEqual(console.answer("drop up ;"), "done")
        self.assertEqual(desk.acts()[-1], ("drop", "up"))
        self.assertEqual(console.answer("drop up ;"), "no name")

    def test_what_is_too_great_or_too_many(self):
        desk, console = triangle()
        rows = "".join(["point p%d free;" % k for k in range(200)])
        way = "way w { " + rows + " give p0; }"
        self.assertEqual(console.answer("sheet {" + way + "point a use w; point b use w; }"), "done")
        self.assertEqual(console.answer("point c free;"), "no great")
        self.assertEqual(console.answer("sheet {" + way + "point a use w; point b use w; point c free; }"), "no great")
        for k in range(30):
            self.assertEqual(console.answer("position p%d;" % k), "done")
        self.assertEqual(console.answer("position p30;"), "no many")
        self.assertEqual(console.answer("position p29 1;"), "done")

    def test_back_and_again(self):
        desk, console = triangle()
        self.assertEqual(console.answer("drop up;"), "done")
        self.assertEqual([console.answer("undo ;") for _ in range(3)], ["done", "done", "no nothing"])
        self.assertEqual(desk.acts(), [])
        self.assertEqual([console.answer("redo;") for _ in range(3)], ["done", "done", "no nothing"])
        self.assertEqual(desk.acts(), [("sheet", TRIANGLE), ("drop", "up")])

    def test_marks(self):
        desk, console = triangle()
        self.assertEqual(console.answer("since m ;"), "no mark")
        self.assertEqual(console.answer("mark m ;"), "done")
        self.assertEqual(console.answer("mark mark ;"), "done")
        self.assertEqual(desk.marks(), ["m", "mark"])
        self.assertEqual(console.answer("since m ;"), "0")
        console.answer("drop up;")
        console.answer("drop flat;")
        self.assertEqual(console.answer("since m;"), "2")
        for _ in range(3):
            console.answer("undo;")
        self.assertEqual(console.answer("since m;"), "-1")
        self.assertEqual(console.answer("since up;"), "no mark")

    def test_the_very_desk(self):
        desk, console = triangle()
        other = Console(desk)
        console.answer("drop up;")
        desk.do(("drop", "flat"))
        self.assertEqual(other.answer("parts;"), "line same short long")
        self.assertEqual(other.answer("undo;"), "done")
        self.assertEqual(console.answer("parts;"), "line same flat short long")


class QuestionsTest(unittest.TestCase):
    def test_answers(self):
        desk, console = triangle()
        self.assertEqual(console.answer("answer line ;"), "always")
        told = desk.answer("same")
        self.assertEqual(console.answer("answer same;"), "not " + ", ".join([str(a) for a, _ in told[1]]))
        self.assertEqual(desk.work(), 2)
        console.answer("point %s %s;" % (NEVER_ROW[0], " ".join(NEVER_ROW[1])))
        self.assertEqual(console.answer("answer line;"), "never 5")
        self.assertEqual(console.answer("answer same;"), "never 5")
        for line, answer in [
            ("answer nobody;", "no name"), ("answer a;", "no name"), ("answer up;", "no sort"), ("answer half;", "no name"),
        ]:
            self.assertEqual(console.answer(line), answer)

    def test_without_parameters(self):
        console = Console(Desk())
        console.answer("sheet { point a at 0 0; point b at 1 0; claim c same a b; position p; claim d same a a; }")
        self.assertEqual(console.answer("answer c;"), "not")
        self.assertEqual(console.answer("answer d;"), "always")
        self.assertEqual(console.answer("at c p;"), "no")
        self.assertEqual(console.answer("where b p;"), "1, 0")

    def test_at(self):
        desk, console = triangle()
        for line, answer in [
            ("at line up;", "yes"), ("at same up;", "no"), ("at same flat;", "yes"), ("at nobody up;", "no name"),
            ("at up nobody;", "no sort"), ("at line nobody;", "no name"), ("at line same;", "no sort"),
            ("at line short;", "no fit"), ("at a up;", "no name"),
        ]:
            self.assertEqual(console.answer(line), answer, line)
        console.answer("point h foot a c f;")
        self.assertEqual(console.answer("at line flat;"), "no built")
        self.assertEqual(console.answer("at line up ;"), "yes")

    def test_where(self):
        desk, console = triangle()
        console.answer("position new -3/2, 7/3;")
        for line, answer in [
            ("where c new;", "-3/2, 7/3"), ("where f new;", "-3/2, 0"), ("where m up;", "2, 0"), ("where c up;", "1/2, 3"),
            ("where nobody up;", "no name"), ("where nobody nobody;", "no name"), ("where a nobody;", "no name"),
            ("where a line;", "no sort"), ("where up up;", "no name"), ("where a short;", "no fit"),
        ]:
            self.assertEqual(console.answer(line), answer, line)
        console.answer("point h foot a c f;")
        self.assertEqual(console.answer("where a flat;"), "no built")

    def test_always(self):
        desk, console = triangle()
        self.assertEqual(console.answer("always ;"), "line long")
        console.answer("drop line;")
        self.assertEqual(console.answer("always ;"), "long")
        console.answer("drop long;")
        self.assertEqual(console.answer("always ;"), "")
        console.answer("point x foot a b b;")
        self.assertEqual(console.answer("always ;"), "no never")

    def test_names(self):
        desk, console = triangle()
        self.assertEqual(console.answer("points ;"), "a b c f m")
        self.assertEqual(console.answer("parts ;"), "line same up flat short long")
        console.answer("sheet{}")
        self.assertEqual([console.answer("points ;"), console.answer("parts ;")], ["", ""])

    def test_too_great(self):
        console = Console(Desk())
        console.answer(
            "sheet { point a free; point b free; point c free; point d free; point e middle a b c;"
            " claim big long e a e b; claim small same a b; }"
        )
        self.assertEqual(console.answer("answer big;"), "no great")
        self.assertEqual(console.answer("always;"), "no great")
        self.assertEqual(console.answer("answer small;")[:4], "not ")
        self.assertEqual(console.answer("answer nobody;"), "no name")

    def test_numbers_of_many_digits(self):
        console = Console(Desk())
        great = "9" * 39
        console.answer("sheet { point a at 0 0; point b free; point c on a b; position p 1/3, 1/7, " + great + "; }")
        self.assertEqual(console.answer("where c p;"), "3" * 39 + ", " + great + "/7")


class LinesTest(unittest.TestCase):
    def is_wrong(self, line, place):
        desk, console = triangle()
        desk.mark("m")
        before = state(desk)
        self.assertEqual(console.answer(line), "no %d" % place, line)
        self.assertEqual(state(desk), before)

    def test_the_examples(self):
        self.is_wrong("undo ; redo ;", 7)
        self.is_wrong("point a ;", 8)
        self.is_wrong("undo", 4)
        self.is_wrong("claim c line a b ;", 17)

    def test_what_begins_no_form(self):
        for line, place in [
            ("", 0), ("  \n ", 4), ("circle a b c d;", 0), (" xyz ;", 1), ("12 ;", 0), ("; undo", 0), ("undoo ;", 0),
            ("way w { give a; }", 0), ("\tundo ;", 0), ("(undo ;", 0), ("Undo ;", 0), ("abcdefghijklm ;", 0), ("free;", 0),
        ]:
            self.is_wrong(line, place)

    def test_lexemes_that_are_missing_or_too_many(self):
        for line, place in [
            ("drop ;", 5), ("drop", 4), ("drop up", 7), ("drop up flat ;", 8), ("drop 5 ;", 5), ("undo redo ;", 5),
            ("undo ; ;", 7), ("mark ;", 5), ("since a b ;", 8), ("answer;", 6), ("answer line same;", 12), ("at line ;", 8),
            ("at line up here ;", 11), ("where a ;", 8), ("always all ;", 7), ("points", 6), ("parts {", 6),
            ("sheet { } ;", 10), ("sheet { point a }", 16), ("point d free; point e free;", 14), ("position p 1,;", 13),
            ("position p 1/;", 13), ("claim c same a b; x", 18), ("undo ; (", 7), ("undo ; \t", 7), ("undo ;\n\n}", 8),
            ("mark 2a ;", 5), ("mark abcdefghijklm ;", 5), ("position p - 0;", 13), ("point d at 1 2 3;", 15),
        ]:
            self.is_wrong(line, place)

    def test_numerals_of_any_length(self):
        long = "1" + "7" * 9000
        for line, place in [
            (long, 0), ("undo " + long, 5), ("undo ; " + long + " ;", 7), ("drop " + long + ";", 5),
            ("point d at 1 2 " + long + ";", 15), ("position p 1 " + long, 13), ("answer ( " + long, 7),
            ("mark m ; - " + long, 9),
        ]:
            self.is_wrong(line, place)

    def test_blanks_and_line_feeds(self):
        for line in LINES:
            desk, console = triangle()
            desk.mark("m")
            answer = console.answer(line)
            for spaced in [
                " " + line + "\n", line.replace(" ", "\n \n"), line.replace(";", " \n;\n "), line.replace("/", " /\n"),
                line.replace("-", "- \n"), line.replace(" ;", ";").replace(", ", ","), "\n\n" + line.replace("{", " { \n"),
            ]:
                other, again = triangle()
                other.mark("m")
                self.assertEqual(again.answer(spaced), answer, spaced)
                self.assertEqual(state(other), state(desk))

    def test_all_lines_are_right(self):
        for line in LINES:
            self.assertIsNone(first_wrong(LINE, line), line)
            desk, console = triangle()
            self.assertNotIn(console.answer(line)[:4], ["no %d" % k for k in range(10)])

    def check(self, line):
        """The answer to a line by its first wrong place, as the forms tell it, if it has one."""
        place = first_wrong(LINE, line)
        if place is not None:
            self.is_wrong(line, place)
        else:
            desk, console = triangle()
            answer = console.answer(line)
            self.assertFalse(answer.startswith("no ") and answer[3:].isdigit(), line)

    def test_lines_cut_anywhere(self):
        for line in LINES:
            for k in range(len(line)):
                self.check(line[:k])

    def test_a_lexeme_more_or_another_one(self):
        lexemes = ["x", "0", "12", "(", "-", "/", ",", ";", "{", "}", "undo", "point", "at", "line", "\t", "ABC"]
        for line in LINES:
            ends = [k for k in range(len(line) + 1) if k in (0, len(line)) or line[k] in " ;,/{}" or line[k - 1] in " ;,/{}"]
            for k in ends[::1 if len(ends) < 30 else 3]:
                for lexeme in lexemes:
                    self.check(line[:k] + " " + lexeme + " " + line[k:])
                    rest = line[k:].lstrip()
                    behind = min([rest.find(sign) for sign in " ;" if sign in rest] + [len(rest)])
                    self.check(line[:k] + lexeme + rest[behind:])

    def test_signs_that_begin_no_lexeme(self):
        source = random.Random(383)
        for line in LINES:
            for _ in range(30):
                k, j = source.randrange(len(line) + 1), source.randrange(len(line) + 1)
                for sign in "(\t$A~":
                    self.check(line[:k] + sign + line[k:])
                    # Ahead of, and behind, another wrong place.
                    low, high = min(k, j), max(k, j)
                    self.check(line[:low] + sign + line[low:high] + " ; undo " + line[high:])
                    self.check(line[:low] + " ; undo " + line[low:high] + sign + line[high:])

    def test_names_that_are_words_of_forms(self):
        console = Console(Desk())
        for line, answer in [
            ("point point free;", "done"), ("point claim at 1 2;", "done"), ("claim undo same point claim;", "done"),
            ("position at 5, 6;", "done"), ("mark redo;", "done"), ("since redo;", "0"), ("answer undo;", "not 0, 0"),
            ("at undo at;", "no"), ("where claim at;", "1, 2"), ("where point at;", "5, 6"), ("drop undo;", "done"),
            ("points;", "point claim"), ("parts;", "at"),
        ]:
            self.assertEqual(console.answer(line), answer, line)


class LimitsTest(unittest.TestCase):
    def test_long_lines(self):
        rows = ["point p%d at %d %d;" % (k, k, 10 ** 39 + k) for k in range(200)]
        parts = ["position q%d %s;" % (k, ", ".join(["-%d/7" % 10 ** 20] * 60)) for k in range(60)]
        line = "sheet { " + " ".join(rows + parts) + " }"
        self.assertGreater(len(line), 90000)
        line = line + " " * (200000 - len(line))
        desk = Desk()
        console = Console(desk)
        self.assertEqual(console.answer(line), "done")
        self.assertEqual(len(desk.sheet()[1]), 200)
        self.assertEqual(console.answer(line[:199999] + "x"), "no 199999")
        self.assertEqual(console.answer("point x free;" + " " * 100000 + ";"), "no 100013")
        self.assertEqual(console.answer("mark " + "a" * 199990), "no 5")
        self.assertEqual(console.answer("undo" + " ;" * 99998), "no 7")
        self.assertEqual(len(desk.acts()), 1)
        self.assertIsNone(raised(console.answer, "{" * 200000))
