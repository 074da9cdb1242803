import random
import unittest

from figureclaims.lexemes import lexemes
from figureclaims.sheets import check_sheet
from figureclaims.sheettexts import (
    claim_text, fractions_text, read_claim, read_fractions, read_sheet, sheet_text,
)
from figureclaims.words import CLAIM_POINTS, STEP_POINTS
from tests.helpers import path_of, place_of, raised
from tests.test_sheets import SHEET

TEXT = """sheet {
way half a b {
point m part a b 1/2;
give m;
}
way none a {
give a;
}
way twice a b {
point c use half a b;
point d use half c b;
give d;
}
point p at 0 -3;
point q free;
point r on p q;
point s use twice p p;
point t part s q -7/10;
point u use none t;
point v meet p q r u;
claim c line p q r;
position d 0, -1/2;
position p;
claim e same v v;
}
"""


# The forms of S1.6 by another way: a form is a tuple, and what may follow a
# lexeme in it is a form again. NEVER is none, DONE the empty one.
NEVER, DONE = ("never",), ("done",)


def both(one, other):
    if one == NEVER or other == NEVER:
        return NEVER
    if one == DONE:
        return other
    return one if other == DONE else ("both", one, other)


def either(one, other):
    if one == NEVER:
        return other
    return one if other in (NEVER, one) else ("either", one, other)


def row_of(*forms):
    row = DONE
    for form in reversed(forms):
        row = both(("one", form) if isinstance(form, str) else form, row)
    return row


def one_of(*forms):
    found = NEVER
    for form in forms:
        found = either(form, found)
    return found


def any_number(*forms):
    return ("star", row_of(*forms))


def may_end(form):
    if form[0] == "both":
        return may_end(form[1]) and may_end(form[2])
    if form[0] == "either":
        return may_end(form[1]) or may_end(form[2])
    return form[0] in ("done", "star")


def behind(form, sort, lexeme):
    """What may follow a lexeme in a form."""
    if form[0] == "one":
        fits = form[1] in (lexeme, sort.upper()) or (form[1] == "NONZERO" and sort == "numeral" and lexeme != "0")
        return DONE if fits else NEVER
    if form[0] == "both":
        first = both(behind(form[1], sort, lexeme), form[2])
        return either(first, behind(form[2], sort, lexeme)) if may_end(form[1]) else first
    if form[0] == "either":
        return either(behind(form[1], sort, lexeme), behind(form[2], sort, lexeme))
    if form[0] == "star":
        return both(behind(form[1], sort, lexeme), form)
    return NEVER


INT = one_of(row_of("NUMERAL"), row_of("-", "NONZERO"))
FRACTION = one_of(INT, row_of(INT, "/", "NUMERAL"))
FRACTIONS = one_of(DONE, row_of(FRACTION, any_number(",", FRACTION)))
CLAIM = one_of(*[row_of(word, *["WORD"] * many) for word, many in CLAIM_POINTS.items()])
PART = one_of(row_of("claim", "WORD", CLAIM, ";"), row_of("position", "WORD", FRACTIONS, ";"))
BEHIND = {"at": row_of(INT, INT), "part": row_of(INT, "/", "NUMERAL")}
STEP = one_of(
    row_of("use", "WORD", any_number("WORD")),
    *[row_of(word, *["WORD"] * many, BEHIND.get(word, DONE)) for word, many in STEP_POINTS.items()]
)
POINT = row_of("point", "WORD", STEP, ";")
WAY = row_of("way", "WORD", any_number("WORD"), "{", any_number(POINT), "give", "WORD", ";", "}")
ALL = row_of("sheet", "{", any_number(WAY), any_number(POINT), any_number(PART), "}")


def first_wrong(form, text):
    """The first wrong place of a text by S1.7, or None."""
    bad = place_of(lexemes, text)
    for sort, lexeme, place in lexemes(text[:bad]):
        form = behind(form, sort, lexeme)
        if form == NEVER:
            return place
    if bad is not None:
        return bad
    return None if may_end(form) else len(text)


class WrittenTest(unittest.TestCase):
    def test_the_whole_text(self):
        self.assertEqual(sheet_text(SHEET), TEXT)

    def test_the_least_text(self):
        self.assertEqual(sheet_text(((), (), ())), "sheet {\n}\n")

    def test_examples(self):
        rows = (("a", ("free",)), ("b", ("free",)), ("m", ("part", "a", "b", 1, 2)))
        parts = (("position", "p", ((0, 1), (-3, 4))), ("position", "q", ()))
        lines = sheet_text(((), rows, parts)).split("\n")
        self.assertEqual(lines[3:], ["point m part a b 1/2;", "position p 0, -3/4;", "position q;", "}", ""])

    def test_a_way_without_wants(self):
        sheet = ((("w", (), (("a", ("at", -1, 0)),), "a"),), (("p", ("use", "w", ())),), ())
        self.assertEqual(
            sheet_text(sheet), "sheet {\nway w {\npoint a at -1 0;\ngive a;\n}\npoint p use w;\n}\n")

    def test_what_stands_behind_part_is_no_fraction(self):
        for above, below, written in [(2, 4, "2/4"), (-6, 1, "-6/1"), (0, 5, "0/5"), (3, 3, "3/3")]:
            sheet = ((), (("a", ("free",)), ("b", ("part", "a", "a", above, below))), ())
            self.assertEqual(sheet_text(sheet).split("\n")[2], "point b part a a " + written + ";")
            self.assertEqual(read_sheet(sheet_text(sheet)), sheet)

    def test_each_step_and_each_claim(self):
        rows = [("a", ("free",))]
        for word, many in STEP_POINTS.items():
            step = (word,) + ("a",) * many + {"at": (-4, 10 ** 39), "part": (-2, 4)}.get(word, ())
            rows.append(("x" + word, step))
        parts = [("claim", "y" + word, (word,) + ("a", "xat") * (many // 2) + ("xon",) * (many % 2))
                 for word, many in CLAIM_POINTS.items()]
        sheet = ((), tuple(rows), tuple(parts))
        check_sheet(sheet)
        text = sheet_text(sheet)
        self.assertEqual(read_sheet(text), sheet)
        self.assertIn("\npoint xmeet meet a a a a;\n", text)
        self.assertIn("\npoint xat at -4 " + "1" + "0" * 39 + ";\n", text)
        self.assertIn("\nclaim yline line a xat xon;\n", text)

    def test_claims(self):
        self.assertEqual(claim_text(("circle", "a", "b2", "c", "line")), "circle a b2 c line")
        self.assertEqual(claim_text(("same", "p", "p")), "same p p")

    def test_fractions(self):
        self.assertEqual(fractions_text(()), "")
        self.assertEqual(fractions_text(((0, 1),)), "0")
        self.assertEqual(fractions_text(((-5, 1), (1, 2), (-3, 4))), "-5, 1/2, -3/4")
        self.assertEqual(fractions_text(((10 ** 39, 1), (-1, 10 ** 39))), "1" + "0" * 39 + ", -1/1" + "0" * 39)


class ReadTest(unittest.TestCase):
    def test_read_back(self):
        self.assertEqual(read_sheet(TEXT), SHEET)
        self.assertEqual(read_sheet("sheet{}"), ((), (), ()))

    def test_blanks_and_line_feeds(self):
        self.assertEqual(read_sheet(" \n" + TEXT.replace("\n", " ")), SHEET)
        self.assertEqual(read_sheet(TEXT.replace(" ", "\n").replace("/", " / ").replace("-", "- \n")), SHEET)
        close = TEXT.replace("\n", "").replace(" {", "{").replace(", ", ",").replace("0 -", "0-")
        self.assertEqual(read_sheet(close), SHEET)

    def test_words_of_forms_as_names(self):
        text = ("sheet { way way way { give way ; } way sheet point { point give free ; give give ; }"
                " point at at 0 0 ; point use use way at ;"
                " claim claim same at use ; position use ; }")
        sheet = (
            (("way", ("way",), (), "way"), ("sheet", ("point",), (("give", ("free",)),), "give")),
            (("at", ("at", 0, 0)), ("use", ("use", "way", ("at",)))),
            (("claim", "claim", ("same", "at", "use")), ("position", "use", ())),
        )
        self.assertEqual(read_sheet(text), sheet)
        self.assertEqual(read_sheet(sheet_text(sheet)), sheet)

    def test_claims(self):
        self.assertEqual(read_claim("circle a b c d"), ("circle", "a", "b", "c", "d"))
        self.assertEqual(read_claim("\n same same same "), ("same", "same", "same"))
        self.assertEqual(read_claim("angle use at on a a a"), ("angle", "use", "at", "on", "a", "a", "a"))
        self.assertIs(type(read_claim("same a b")), tuple)

    def test_fractions(self):
        self.assertEqual(read_fractions(""), ())
        self.assertEqual(read_fractions(" \n "), ())
        self.assertEqual(read_fractions("0, -3/4"), ((0, 1), (-3, 4)))
        self.assertEqual(read_fractions("2/4,1/0 ,- 6 / 3,0/0, 7"), ((2, 4), (1, 0), (-6, 3), (0, 0), (7, 1)))
        for told in read_fractions("1, 2/3"):
            self.assertIs(type(told), tuple)

    def test_great_integers(self):
        great = "9" * 40
        self.assertEqual(read_fractions("-%s/%s" % (great, great)), ((-int(great), int(great)),))

    def test_many_read_back(self):
        source = random.Random(3)
        for _ in range(200):
            numbers = tuple([(source.randrange(-9, 10), source.randrange(1, 9)) for _ in range(source.randrange(6))])
            self.assertEqual(read_fractions(fractions_text(numbers)), numbers)
            word = source.choice(list(CLAIM_POINTS))
            claim = (word,) + tuple([source.choice(["a", "use", "z9"]) for _ in range(CLAIM_POINTS[word])])
            self.assertEqual(read_claim(claim_text(claim)), claim)

    def test_what_tells_no_sheet(self):
        for text, path in [
            ("sheet { point a on b c; }", (1, 0, 1, 1)),
            ("sheet { point a free; point a free; }", (1, 1, 0)),
            ("sheet { point a free; point b part a a 1/0; }", (1, 1, 1, 4)),
            ("sheet { position p 1, 2/4; }", (2, 0, 2, 1)),
            ("sheet { position p 1/0; }", (2, 0, 2, 0)),
            ("sheet { position p 0/2, 0/1; }", (2, 0, 2, 0)),
            ("sheet { position p; position p; }", (2, 1, 1)),
            ("sheet { claim c same a a; }", (2, 0, 2, 1)),
            ("sheet { way w { give a; } }", (0, 0, 3)),
            ("sheet { way w a a { give a; } }", (0, 0, 1, 1)),
            ("sheet { way w a { give a; } way w { give a; } }", (0, 1, 0)),
            ("sheet { way w a { point b use w a; give a; } }", (0, 0, 2, 0, 1, 1)),
            ("sheet { way w a { give a; } point p free; point q use w; }", (1, 1, 1, 2)),
            ("sheet { way w a { give a; } point p free; point q use w p p; }", (1, 1, 1, 2)),
            ("sheet { point q use w p p; }", (1, 0, 1, 1)),
        ]:
            self.assertEqual(path_of(read_sheet, text), path, text)

    def test_wrong_places_ahead_of_wrong_paths(self):
        self.assertEqual(place_of(read_sheet, "sheet { point a on b c; "), 24)
        self.assertEqual(place_of(read_sheet, "sheet { point a on b c; } ("), 26)
        self.assertEqual(place_of(read_sheet, "sheet { point a on b c; } ;"), 26)

    def test_kinds_of_what_is_read(self):
        def kinds(value):
            self.assertIn(type(value), (tuple, str, int))
            if isinstance(value, tuple):
                for part in value:
                    kinds(part)
        kinds(read_sheet(TEXT))


class WrongPlaceTest(unittest.TestCase):
    def is_wrong(self, call, text, place):
        self.assertEqual(place_of(call, text), place, text)

    def test_examples(self):
        self.is_wrong(read_sheet, "sheet ( }", 6)
        self.is_wrong(read_sheet, "sheet { point a }", 16)
        self.is_wrong(read_claim, "circle a , b", 9)

    def test_nothing(self):
        for text in ["", " ", "\n\n"]:
            self.is_wrong(read_sheet, text, len(text))
            self.is_wrong(read_claim, text, len(text))

    def test_signs_that_begin_no_lexeme(self):
        self.is_wrong(read_claim, "same ( a", 5)
        self.is_wrong(read_claim, "same 1 (", 5)
        self.is_wrong(read_claim, "same a(1", 6)
        self.is_wrong(read_claim, "same a b (", 9)
        self.is_wrong(read_claim, "same a b\t", 8)
        self.is_wrong(read_claim, "same a b c (", 9)
        self.is_wrong(read_claim, "(same a b", 0)
        self.is_wrong(read_claim, "same a abcdefghijklm", 7)
        self.is_wrong(read_claim, "same a b abcdefghijklm", 9)
        self.is_wrong(read_claim, "same a", 6)
        self.is_wrong(read_claim, "same a  \n", 9)
        self.is_wrong(read_fractions, "(", 0)
        self.is_wrong(read_fractions, "1, \t2", 3)
        self.is_wrong(read_fractions, "A", 0)

    def test_integers(self):
        self.is_wrong(read_fractions, "-0", 1)
        self.is_wrong(read_fractions, "- 0", 2)
        self.is_wrong(read_fractions, "-", 1)
        self.is_wrong(read_fractions, "--1", 1)
        self.is_wrong(read_fractions, "-a", 1)
        self.is_wrong(read_fractions, "-01", 1)
        self.is_wrong(read_fractions, "007", 1)
        self.is_wrong(read_fractions, "1/-2", 2)
        self.is_wrong(read_fractions, "1/00", 3)
        self.is_wrong(read_fractions, "1/2/3", 3)
        self.is_wrong(read_fractions, "1 2", 2)
        self.is_wrong(read_fractions, "1,", 2)
        self.is_wrong(read_fractions, "1,,2", 2)
        self.is_wrong(read_fractions, ",1", 0)
        self.is_wrong(read_fractions, "1;", 1)
        self.is_wrong(read_fractions, "1a", 1)

    def test_each_lexeme_of_each_form(self):
        """All texts of the form, cut off or with one lexeme exchanged, have the place that S1.7 tells."""
        texts = [(read_sheet, ALL, TEXT)]
        for word, many in CLAIM_POINTS.items():
            texts.append((read_claim, CLAIM, word + " b" * many))
        for word, many in STEP_POINTS.items():
            behind_it = {"at": " 0 -1", "part": " -3/4"}.get(word, "")
            texts.append((read_sheet, ALL, "sheet { point a " + word + " b" * many + behind_it + "; }"))
        texts.append((read_sheet, ALL, "sheet { way w { give w ; } point a use b; position p -1/2, 3; }"))
        texts.append((read_fractions, FRACTIONS, "-1/2, 3, 4/5"))
        for call, form, text in texts:
            whole = lexemes(text)
            step = 1 if len(whole) < 40 else 7
            for _, lexeme, place in whole:
                self.compare(call, form, text[:place])
                self.compare(call, form, text[:place + len(lexeme)] + " \n")
                for other in ["x", "0", "12", "(", "-", "/", ",", ";", "{", "}", "way", "point", "give", "claim"][::step]:
                    self.compare(call, form, text[:place] + other + " " + text[place + len(lexeme):])
                    self.compare(call, form, text[:place] + other + " " + text[place:])
            self.compare(call, form, text + " x")
            self.compare(call, form, text + "(")

    def test_many_texts(self):
        source = random.Random(5)
        words = ("sheet { } way point give claim position use at free on part meet line same a b c "
                 "0 1 22 - / , ; ( ").split(" ")
        for _ in range(1500):
            text = " ".join([source.choice(words) for _ in range(source.randrange(1, 8))])
            self.compare(read_sheet, ALL, "sheet { " + text)
            self.compare(read_sheet, ALL, "sheet { way a { " + text)
            self.compare(read_sheet, ALL, "sheet { point a " + text)
            self.compare(read_sheet, ALL, "sheet { position a " + text)
            self.compare(read_claim, CLAIM, text)
            self.compare(read_fractions, FRACTIONS, text)

    def compare(self, call, form, text):
        place = first_wrong(form, text)
        if place is not None:
            self.is_wrong(call, text, place)
        elif raised(call, text) is not None:
            # Of the form, but what it tells is no sheet.
            self.assertIs(call, read_sheet)
            self.assertNotEqual(path_of(call, text), (), text)

    def test_great_texts(self):
        free = "point p%d free;\n"
        rows = "".join([free % k for k in range(11000)])
        self.assertEqual(len(read_sheet("sheet {\n" + rows + "}")[1]), 11000)
        self.is_wrong(read_sheet, "sheet {\n" + rows, len(rows) + 8)
        self.is_wrong(read_sheet, "sheet {\n" + rows + "way", len(rows) + 8)
        self.assertEqual(path_of(read_sheet, "sheet {\n" + rows + "point p0 free; }"), (1, 11000, 0))
        self.assertEqual(len(read_fractions("1," * 99999 + "1")), 100000)
        self.is_wrong(read_fractions, "1," * 100000, 200000)
        self.is_wrong(read_sheet, "sheet { way " + "a " * 90000, 180012)
        self.is_wrong(read_claim, " " * 200000, 200000)

    def test_long_wrong_numerals(self):
        for long in ["9" * 5000, "9" * 190000]:
            self.is_wrong(read_claim, "same " + long, 5)
            self.is_wrong(read_claim, "same a b " + long, 9)
            self.is_wrong(read_claim, long, 0)
            self.is_wrong(read_sheet, "sheet " + long, 6)
            self.is_wrong(read_sheet, "sheet { point a at 1 2 " + long, 23)
            self.is_wrong(read_sheet, "sheet { point a part b c 1 " + long, 27)
            self.is_wrong(read_sheet, "sheet { position a 1 " + long, 21)
            self.is_wrong(read_fractions, "1/2 " + long, 4)
            self.is_wrong(read_fractions, "1 1 " + long, 2)
            self.is_wrong(read_fractions, "0" + long, 1)
            self.is_wrong(read_fractions, "-0" + long, 1)
            self.is_wrong(read_fractions, "( " + long, 0)
            self.is_wrong(read_claim, "same a ( " + long, 7)
