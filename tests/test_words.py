import unittest

from figureclaims.words import (
    claim_points, is_fraction, is_integer, is_name, is_number, step_points,
)
from tests.helpers import OTHER_KINDS, nested

STEPS = {
    "at": 0, "free": 0, "on": 2, "round": 2, "part": 2, "quarter": 2, "shift": 3, "foot": 3,
    "mirror": 3, "middle": 3, "other": 3, "second": 3, "inverse": 3, "meet": 4,
}
CLAIMS = {
    "same": 2, "line": 3, "circle": 4, "parallel": 4, "upright": 4, "long": 4, "area": 6,
    "angle": 6, "ratio": 8,
}
STRANGE = [
    (), (1,), ("at",), ["at"], {"at": 0}, {"line": 1}, (1, 2, 3), [1, 2], nested(40), ValueError(),
]


class WordsTest(unittest.TestCase):
    def agrees(self, test, right, wrong):
        for value in right:
            self.assertIs(test(value), True, value)
        for value in wrong:
            self.assertIs(test(value), False, value)

    def test_names(self):
        self.agrees(
            is_name,
            ["a", "z", "a0", "z9", "abc", "a12345678901", "abcdefghijkl", "sheet", "use", "zz0zz"],
            ["", "0", "9", "0a", "1abc", "abcdefghijklm", "a123456789012", "A", "aB", "a_b", "a b",
             " a", "a ", "a-b", "a\n", "a\t", "{", "`", "a`", "a{", "a/", "a:", "@"],
        )
        self.agrees(is_name, [], [value for value in OTHER_KINDS if value not in ("a", "at")] + STRANGE)

    def test_integers(self):
        self.agrees(
            is_integer,
            [0, 1, -1, 7, 10 ** 39, -10 ** 39],
            [True, False, None, "", "1", "a"] + STRANGE,
        )

    def test_numbers(self):
        self.agrees(
            is_number,
            [0, 1, 7, 10 ** 39],
            [-1, -7, -10 ** 39, True, False, None, "", "1"] + STRANGE,
        )

    def test_fractions(self):
        self.agrees(
            is_fraction,
            [(0, 1), (1, 1), (-1, 1), (1, 2), (-3, 2), (10 ** 39, 10 ** 39 - 1), (7, 10 ** 30)],
            [(2, 4), (1, 0), (0, 0), (0, 2), (1, -2), (-3, -2), (-2, 2), (-6, 4), (10 ** 30, 10),
             [1, 2], (1,), (1, 2, 3), (), (True, 1), (1, True), (False, 1), (0, True), (None, 1),
             (1, None), ("1", 2), ((1, 2), 1), (1, [2]), (1, {}), 1, 0],
        )
        self.agrees(is_fraction, [], OTHER_KINDS + STRANGE)

    def test_step_words(self):
        for word, many in STEPS.items():
            self.assertEqual(step_points(word), many)
            self.assertIs(type(step_points(word)), int)

    def test_claim_words(self):
        for word, many in CLAIMS.items():
            self.assertEqual(claim_points(word), many)

    def test_no_words(self):
        for word in list(CLAIMS) + ["use", "", "At", "at ", "point"] + STRANGE + [0, 1, True, None]:
            self.assertIsNone(step_points(word), word)
        for word in list(STEPS) + ["use", "", "Line", "line ", "claim"] + STRANGE + [0, 1, True, None]:
            self.assertIsNone(claim_points(word), word)
