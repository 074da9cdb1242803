import unittest

from figureclaims.figures import check_claim, check_figure, check_position, named, parameters_of
from tests.helpers import OTHER_KINDS, nested, path_of, put

POINTS = {
    "free": 0, "on": 2, "round": 2, "quarter": 2, "shift": 3, "foot": 3, "mirror": 3, "middle": 3,
    "other": 3, "second": 3, "inverse": 3, "meet": 4, "at": 0, "part": 2,
}
BEHIND = {"at": (-3, 10 ** 6), "part": (-2, 4)}
CLAIMS = {
    "same": 2, "line": 3, "circle": 4, "parallel": 4, "upright": 4, "long": 4, "area": 6,
    "angle": 6, "ratio": 8,
}
TWO = (("free",), ("at", 1, 2))
NO_POINTS = [-1, -2, True, False, None, "0", "a", (), (0,), [0], {0: 0}, nested(40), 10 ** 39]


def step_of(word, *points):
    return (word,) + points[:POINTS[word]] + BEHIND.get(word, ())


class FiguresTest(unittest.TestCase):
    def is_wrong(self, value, *path):
        self.assertEqual(path_of(check_figure, value), path, value)

    def test_right_ones(self):
        self.assertIsNone(check_figure(()))
        for word in POINTS:
            for points in [(0, 1, 1, 0), (1, 1, 1, 1), (1, 0, 1, 0)]:
                self.assertIsNone(check_figure(TWO + (step_of(word, *points),)))
        self.assertIsNone(check_figure(TWO + (("part", 0, 1, -10 ** 39, 10 ** 39),)))

    def test_no_tuples(self):
        for value in OTHER_KINDS + [list(TWO)]:
            self.is_wrong(value)
        for step in OTHER_KINDS + [["free"], (), (1,), (None,), (["free"],), (("free",),)]:
            self.is_wrong(TWO + (step,), 2)

    def test_words_and_lengths(self):
        for word in POINTS:
            step = step_of(word, 0, 1, 0, 1)
            self.is_wrong(TWO + (step + (0,),), 2)
            self.is_wrong(TWO + (step[:-1],), 2)
            self.is_wrong(TWO + (list(step),), 2)
            self.is_wrong(TWO + ((word + " ",) + step[1:],), 2)
        for word in list(CLAIMS) + ["use", ""]:
            self.is_wrong(TWO + ((word, 0, 1),), 2)

    def test_points(self):
        for word, many in POINTS.items():
            step = step_of(word, 0, 1, 0, 1)
            for k in range(1, 1 + many):
                for other in NO_POINTS + [2, 3]:
                    self.is_wrong(TWO + (put(step, (k,), other),), 2, k)
                self.assertIsNone(check_figure(TWO + (("free",), put(step, (k,), 2))))

    def test_integers(self):
        for other in [True, False, None, "1", (1,), (1, 1), [1], {}, nested(40)]:
            self.is_wrong((("at", other, 0),), 0, 1)
            self.is_wrong((("at", 0, other),), 0, 2)
            self.is_wrong(TWO + (("part", 0, 1, other, 1),), 2, 3)
            self.is_wrong(TWO + (("part", 0, 1, 1, other),), 2, 4)
        for below in [0, -1]:
            self.is_wrong(TWO + (("part", 0, 1, 1, below),), 2, 4)

    def test_the_first_of_several(self):
        self.is_wrong((("at", None, None), None), 0, 1)
        self.is_wrong(TWO + (("part", 2, 2, None, 0), None), 2, 1)
        self.is_wrong(TWO + (("part", 1, 2, None, 0), None), 2, 2)
        self.is_wrong(TWO + (("part", 1, 1, None, 0), None), 2, 3)
        self.is_wrong((("on", 0, 0), ("free",)), 0, 1)
        self.is_wrong((("free",), ("meet", 0, 0, 0, 1)), 1, 4)

    def test_parameters(self):
        self.assertEqual(parameters_of(()), 0)
        for word in POINTS:
            many = {"free": 2, "on": 1, "round": 1}.get(word, 0)
            self.assertEqual(parameters_of((step_of(word, 0, 0, 0, 0),)), many)
        self.assertEqual(parameters_of(TWO + (("on", 0, 1), ("free",), ("round", 0, 1))), 6)

    def test_named(self):
        for word, many in POINTS.items():
            self.assertEqual(named(step_of(word, 7, 5, 7, 6)), (7, 5, 7, 6)[:many])
            self.assertIs(type(named(step_of(word, 7, 5, 7, 6))), tuple)
        self.assertEqual(named(("meet", 3, 3, 0, 3)), (3, 3, 0, 3))
        self.assertEqual(named(("part", 2, 1, 5, 6)), (2, 1))
        self.assertEqual(named(("at", 2, 1)), ())


class PositionsTest(unittest.TestCase):
    FIGURE = TWO + (("on", 0, 1), ("round", 0, 1))

    def is_wrong(self, value, *path):
        self.assertEqual(path_of(check_position, self.FIGURE, value), path, value)

    def test_right_ones(self):
        self.assertIsNone(check_position((), ()))
        self.assertIsNone(check_position(TWO, ((0, 1), (-1, 2))))
        self.assertIsNone(check_position(self.FIGURE, ((0, 1), (-1, 2), (10 ** 39, 7), (1, 10 ** 39))))

    def test_wrong_as_a_whole(self):
        right = ((0, 1), (1, 2), (3, 1), (4, 1))
        for value in OTHER_KINDS + [list(right), right[:3], right + right[:1], (), [], "abcd", nested(40)]:
            self.is_wrong(value)
        self.assertEqual(path_of(check_position, (), ((0, 1),)), ())
        self.assertEqual(path_of(check_position, (), []), ())

    def test_wrong_fractions(self):
        right = ((0, 1), (1, 2), (3, 1), (4, 1))
        for k in range(4):
            for other in OTHER_KINDS + [
                    (2, 4), (1, 0), (0, 2), (1, -1), (0, 0), [0, 1], (0,), (0, 1, 1), (True, 1), (1, True),
                    (False, 1), (None, 1), ("0", 1), ((0,), 1), nested(40)]:
                self.is_wrong(put(right, (k,), other), k)
        self.is_wrong(((0, 1), (2, 2), None, (1, 0)), 1)


class ClaimsTest(unittest.TestCase):
    FIGURE = TWO + (("on", 0, 1),)

    def is_wrong(self, value, *path):
        self.assertEqual(path_of(check_claim, self.FIGURE, value), path, value)

    def test_right_ones(self):
        for word, many in CLAIMS.items():
            self.assertIsNone(check_claim(self.FIGURE, (word,) + (0, 2, 1, 2, 0, 0, 1, 2)[:many]))
            self.assertIsNone(check_claim((("free",),), (word,) + (0,) * many))

    def test_wrong_as_a_whole(self):
        for value in OTHER_KINDS + [(), (1,), (["same"], 0, 1), (None, 0, 1), ["same", 0, 1], nested(40)]:
            self.is_wrong(value)
        for word, many in CLAIMS.items():
            self.is_wrong((word,) + (0,) * (many + 1))
            self.is_wrong((word,) + (0,) * (many - 1))
            self.is_wrong([word] + [0] * many)
            self.is_wrong((word.upper(),) + (0,) * many)
        for word in list(POINTS) + ["use", "claim", ""]:
            self.is_wrong((word, 0, 1))
            self.is_wrong((word, 0, 1, 2))

    def test_wrong_points(self):
        for word, many in CLAIMS.items():
            claim = (word,) + (0, 2, 1, 2, 0, 0, 1, 2)[:many]
            for k in range(1, 1 + many):
                for other in NO_POINTS + [3, 4]:
                    self.is_wrong(put(claim, (k,), other), k)
        self.is_wrong(("line", 0, 3, None), 2)
        self.assertEqual(path_of(check_claim, (), ("same", 0, 0)), (1,))
