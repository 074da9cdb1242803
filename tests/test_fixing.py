import random
import unittest

from figureclaims.fixing import can_fix, fixed
from figureclaims.reaches import reach_of, size_of
from figureclaims.settling import settle
from figureclaims.witnesses import settled
from tests.drawn import INTEGERS, POINTS
from tests.test_settling import some_claim

FREE = (("free",), ("free",), ("free",), ("part", 0, 1, 1, 2), ("foot", 2, 0, 1))


def some_free_figure(source, most):
    """A figure without at steps, whose free points stand anywhere."""
    figure = [("free",), ("free",)]
    while len(figure) < most:
        word = source.choice([word for word in POINTS if word not in ("at", "on", "round")])
        points = tuple([source.randrange(len(figure)) for _ in range(POINTS[word])])
        integers = (source.randrange(-3, 4), source.randrange(1, 4)) if word in INTEGERS else ()
        figure.append((word,) + points + integers)
    return tuple(figure)


class FixingTest(unittest.TestCase):
    def test_can_fix(self):
        self.assertIs(can_fix(FREE), True)
        self.assertIs(can_fix(FREE[:2]), True)
        self.assertIs(can_fix(FREE[:1]), False)
        self.assertIs(can_fix(()), False)
        self.assertIs(can_fix((("at", 0, 0),)), False)
        self.assertIs(can_fix(FREE + (("at", 0, 0),)), False)
        self.assertIs(can_fix((("at", 7, 7),) + (("free",),) * 3), False)
        self.assertIs(can_fix((("free",), ("part", 0, 0, 1, 2), ("round", 0, 1))), False)
        self.assertIs(can_fix((("free",), ("on", 0, 0), ("quarter", 0, 1), ("free",))), True)

    def test_fixed(self):
        self.assertEqual(fixed(FREE), (("at", 0, 0), ("at", 1, 0)) + FREE[2:])
        self.assertEqual(fixed(FREE[:2]), (("at", 0, 0), ("at", 1, 0)))
        self.assertIs(type(fixed(FREE)), tuple)

    def test_free_points_that_do_not_stand_first(self):
        figure = (("free",), ("on", 0, 0), ("quarter", 0, 1), ("free",), ("free",), ("shift", 3, 0, 4))
        self.assertEqual(
            fixed(figure),
            (("at", 0, 0), ("on", 0, 0), ("quarter", 0, 1), ("at", 1, 0), ("free",), ("shift", 3, 0, 4)),
        )

    def test_what_stays_the_same(self):
        source = random.Random(227)
        seen = {}
        for _ in range(250):
            figure = some_free_figure(source, source.randrange(3, 6))
            claim = some_claim(source, figure)
            if size_of(reach_of(figure, (claim,))) > 100000:
                continue
            answer, other = settle(figure, claim), settled(fixed(figure), claim)
            self.assertEqual(answer[0], other[0], (figure, claim))
            if answer[0] == "never":
                self.assertEqual(answer, other)
            seen[answer[0]] = seen.get(answer[0], 0) + 1
        self.assertGreater(min([seen[word] for word in ("never", "always", "not")]), 15)

    def test_less_reaches(self):
        figure = FREE + (("mirror", 2, 3, 4), ("meet", 2, 3, 1, 4), ("middle", 0, 1, 5))
        claim = ("long", 7, 0, 7, 5)
        self.assertGreater(size_of(reach_of(figure, (claim,))), 300000)
        self.assertLessEqual(size_of(reach_of(fixed(figure), (claim,))), 300000)
        self.assertEqual(settled(fixed(figure), claim), ("always",))
