import random
import unittest
from fractions import Fraction

from figureclaims.building import built, holds, made
from figureclaims.errors import NotBuilt
from figureclaims.figures import check_claim, check_figure, check_position
from tests.drawn import CLAIMS, at, expected, pairs, some_figure, some_position
from tests.helpers import raised

T = (("at", 0, 0), ("at", 4, 0), ("free",), ("foot", 2, 0, 1), ("meet", 0, 2, 1, 3))


class BuildingTest(unittest.TestCase):
    def makes(self, step, points, place, position=()):
        """A step behind points that are at whole places, twice as many numbers."""
        figure = tuple([("at",) + tuple(points[k:k + 2]) for k in range(0, len(points), 2)]) + (step,)
        check_figure(figure)
        check_position(figure, position)
        places = at(*points)
        if place is None:
            self.assertEqual(made(figure, position), places)
            error = raised(built, figure, position)
            self.assertIs(type(error), NotBuilt)
            self.assertEqual(error.step, len(places))
        else:
            self.assertEqual(made(figure, position), places + at(*place))
            self.assertEqual(built(figure, position), places + at(*place))

    def test_the_example(self):
        self.assertEqual(
            built(T, ((1, 1), (2, 1))),
            [((0, 1), (0, 1)), ((4, 1), (0, 1)), ((1, 1), (2, 1)), ((1, 1), (0, 1)), ((0, 1), (0, 1))],
        )
        self.assertEqual(
            made(T, ((1, 1), (0, 1))),
            [((0, 1), (0, 1)), ((4, 1), (0, 1)), ((1, 1), (0, 1)), ((1, 1), (0, 1))],
        )
        self.assertEqual(raised(built, T, ((1, 1), (0, 1))).step, 4)

    def test_nothing(self):
        self.assertEqual(made((), ()), [])
        self.assertEqual(built((), ()), [])

    def test_at_and_free(self):
        self.makes(("at", -3, 7), [], [-3, 7])
        self.makes(("free",), [], [Fraction(-3, 2), 5], ((-3, 2), (5, 1)))
        self.makes(("free",), [1, 1], [Fraction(1, 6), Fraction(2, 15)], ((1, 6), (2, 15)))

    def test_on(self):
        self.makes(("on", 0, 1), [1, 2, 4, 8], [2, 4], ((1, 3),))
        self.makes(("on", 1, 0), [1, 2, 4, 8], [Fraction(11, 2), 11], ((-1, 2),))
        self.makes(("on", 0, 1), [1, 2, 4, 8], [1, 2], ((0, 1),))
        self.makes(("on", 0, 1), [1, 2, 1, 2], [1, 2], ((5, 7),))
        self.makes(("on", 0, 0), [1, 2], [1, 2], ((5, 7),))

    def test_round(self):
        self.makes(("round", 0, 1), [1, 2, 6, 2], [6, 2], ((0, 1),))
        self.makes(("round", 0, 1), [1, 2, 6, 2], [1, 7], ((1, 1),))
        self.makes(("round", 0, 1), [1, 2, 6, 2], [1, -3], ((-1, 1),))
        self.makes(("round", 0, 1), [1, 2, 6, 2], [4, 6], ((1, 2),))
        self.makes(("round", 0, 1), [1, 2, 6, 2], [-2, 6], ((2, 1),))
        self.makes(("round", 0, 1), [1, 2, 1, 2], [1, 2], ((3, 1),))

    def test_part(self):
        self.makes(("part", 0, 1, 1, 2), [0, 0, 3, 5], [Fraction(3, 2), Fraction(5, 2)])
        self.makes(("part", 0, 1, 2, 4), [0, 0, 3, 5], [Fraction(3, 2), Fraction(5, 2)])
        self.makes(("part", 1, 0, -4, 1), [0, 0, 3, 5], [15, 25])
        self.makes(("part", 0, 1, 0, 9), [1, 1, 3, 5], [1, 1])
        self.makes(("part", 0, 1, 7, 3), [1, 1, 1, 1], [1, 1])

    def test_quarter(self):
        self.makes(("quarter", 0, 1), [1, 1, 4, 3], [-1, 4])
        self.makes(("quarter", 1, 0), [1, 1, 4, 3], [6, 0])
        self.makes(("quarter", 0, 1), [1, 1, 1, 1], [1, 1])

    def test_shift(self):
        self.makes(("shift", 0, 1, 2), [1, 2, 4, 8, 10, 20], [13, 26])
        self.makes(("shift", 1, 0, 2), [1, 2, 4, 8, 10, 20], [7, 14])
        self.makes(("shift", 0, 0, 1), [1, 2, 4, 8], [4, 8])

    def test_meet(self):
        self.makes(("meet", 0, 1, 2, 3), [0, 0, 2, 2, 0, 4, 4, 0], [2, 2])
        self.makes(("meet", 0, 1, 2, 3), [0, 0, 1, 0, 3, 1, 3, 2], [3, 0])
        self.makes(("meet", 0, 1, 0, 2), [5, 6, 1, 0, 3, 1], [5, 6])
        self.makes(("meet", 0, 1, 2, 3), [0, 0, 2, 2, 0, 1, 4, 5], None)
        self.makes(("meet", 0, 1, 2, 3), [0, 0, 2, 2, 5, 5, -1, -1], None)
        self.makes(("meet", 0, 1, 0, 1), [0, 0, 2, 2], None)
        self.makes(("meet", 0, 1, 1, 0), [0, 0, 2, 2], None)
        self.makes(("meet", 0, 0, 0, 1), [0, 0, 2, 2], None)
        self.makes(("meet", 0, 1, 2, 3), [0, 0, 2, 2, 3, 1, 3, 1], None)
        self.makes(("meet", 0, 1, 2, 3), [0, 0, 0, 0, 3, 1, 3, 1], None)

    def test_foot(self):
        self.makes(("foot", 0, 1, 2), [1, 3, 0, 0, 4, 0], [1, 0])
        self.makes(("foot", 0, 1, 2), [4, 0, 0, 0, 3, 3], [2, 2])
        self.makes(("foot", 0, 1, 2), [2, 2, 0, 0, 3, 3], [2, 2])
        self.makes(("foot", 1, 1, 0), [2, 2, 0, 0], [0, 0])
        self.makes(("foot", 0, 1, 2), [1, 3, 4, 5, 4, 5], None)
        self.makes(("foot", 0, 1, 1), [1, 3, 4, 5], None)
        self.makes(("foot", 0, 0, 0), [1, 3], None)

    def test_mirror(self):
        self.makes(("mirror", 0, 1, 2), [1, 3, 0, 0, 4, 0], [1, -3])
        self.makes(("mirror", 0, 1, 2), [4, 0, 0, 0, 3, 3], [0, 4])
        self.makes(("mirror", 0, 1, 2), [2, 2, 0, 0, 3, 3], [2, 2])
        self.makes(("mirror", 0, 1, 2), [1, 3, 4, 5, 4, 5], None)
        self.makes(("mirror", 0, 1, 1), [1, 3, 4, 5], None)

    def test_second(self):
        self.makes(("second", 0, 1, 2), [1, 3, 0, 0, 4, 0], [1, -3])
        self.makes(("second", 0, 1, 2), [2, 0, 0, 0, 4, 0], [2, 0])
        self.makes(("second", 0, 1, 2), [1, 3, 4, 5, 4, 5], None)
        self.makes(("second", 0, 1, 1), [1, 3, 4, 5], None)
        self.makes(("second", 0, 0, 1), [1, 3, 4, 5], [1, 3])

    def test_middle(self):
        self.makes(("middle", 0, 1, 2), [0, 0, 4, 0, 0, 6], [2, 3])
        self.makes(("middle", 2, 0, 1), [1, 1, 3, 1, 2, 2], [2, 1])
        self.makes(("middle", 0, 1, 2), [0, 0, 2, 1, 4, 2], None)
        self.makes(("middle", 0, 1, 2), [0, 0, 2, 1, 0, 0], None)
        self.makes(("middle", 0, 1, 2), [0, 0, 0, 0, 3, 1], None)
        self.makes(("middle", 0, 1, 1), [0, 0, 3, 1], None)
        self.makes(("middle", 0, 0, 0), [5, 1], None)

    def test_other(self):
        self.makes(("other", 0, 1, 2), [0, 0, 4, 0, 1, 3], [2, 0])
        self.makes(("other", 0, 1, 2), [0, 0, 1, 1, 2, 0], [2, 2])
        # The line only touches the circle.
        self.makes(("other", 0, 1, 2), [0, 0, 4, 0, 0, 3], [0, 0])
        self.makes(("other", 0, 1, 0), [2, 3, 4, 0], [2, 3])
        self.makes(("other", 0, 1, 1), [0, 0, 4, 1], [8, 2])
        self.makes(("other", 0, 1, 2), [1, 1, 1, 1, 3, 4], None)
        self.makes(("other", 0, 0, 1), [1, 1, 3, 4], None)

    def test_inverse(self):
        self.makes(("inverse", 0, 1, 2), [3, 0, 0, 0, 6, 0], [12, 0])
        self.makes(("inverse", 0, 1, 2), [1, 1, 0, 0, 0, 2], [2, 2])
        self.makes(("inverse", 0, 1, 2), [2, 4, 1, 1, 6, 1], [Fraction(7, 2), Fraction(17, 2)])
        self.makes(("inverse", 0, 1, 0), [3, 1, 1, 1], [3, 1])
        self.makes(("inverse", 0, 1, 1), [3, 1, 1, 1], [1, 1])
        self.makes(("inverse", 0, 1, 2), [1, 1, 1, 1, 5, 5], None)
        self.makes(("inverse", 0, 0, 1), [1, 1, 5, 5], None)

    def test_the_first_step_that_cannot_be_done(self):
        figure = (("free",), ("free",), ("foot", 0, 0, 1), ("on", 0, 1), ("meet", 0, 1, 2, 3))
        same = ((1, 2), (1, 3), (1, 2), (1, 3), (5, 1))
        self.assertEqual(len(made(figure, same)), 2)
        self.assertEqual(raised(built, figure, same).step, 2)
        unlike = ((1, 2), (1, 3), (1, 2), (2, 3), (5, 1))
        self.assertEqual(len(made(figure, unlike)), 4)
        self.assertEqual(raised(built, figure, unlike).step, 4)

    def test_parameters_in_the_order_of_the_steps(self):
        figure = (("at", 0, 0), ("free",), ("on", 0, 1), ("free",), ("round", 0, 1))
        position = ((3, 1), (4, 1), (2, 1), (7, 1), (8, 1), (0, 1))
        self.assertEqual(built(figure, position), at(0, 0, 3, 4, 6, 8, 7, 8, 3, 4))

    def test_many_figures(self):
        source = random.Random(23)
        broken = 0
        for _ in range(1500):
            figure = some_figure(source, source.randrange(3, 9))
            position = some_position(source, figure)
            check_figure(figure)
            places = [pairs(place) for place in expected(figure, position)]
            self.assertEqual(made(figure, position), places, (figure, position))
            if len(places) < len(figure):
                broken += 1
                self.assertEqual(raised(built, figure, position).step, len(places))
            else:
                self.assertEqual(built(figure, position), places)
        self.assertGreater(broken, 200)
        self.assertLess(broken, 1300)

    def test_great_numbers(self):
        figure = (("free",),) * 3 + tuple([("inverse", n - 1, n - 2, n - 3) for n in range(3, 10)])
        figure = figure + (("inverse", 9, 8, 7), ("inverse", 10, 8, 7), ("mirror", 9, 8, 7), ("mirror", 12, 8, 7))
        position = tuple([(10 ** 38 + 3 * k, 10 ** 39 + 7) for k in (1, 11, 14, 2, 15, 6)])
        places = built(figure, position)
        self.assertEqual(places[11], places[9])
        self.assertEqual(places[13], places[9])
        self.assertTrue(holds(places, ("circle", 9, 10, 9, 12)))
        self.assertTrue(holds(places, ("line", 9, 10, 8)))
        self.assertTrue(holds(places, ("long", 12, 7, 9, 7)))
        self.assertFalse(holds(places, ("long", 12, 7, 10, 7)))

    def test_forty_steps(self):
        figure = (("at", 0, 0), ("at", 1, 0)) + tuple([("quarter", n - 1, n - 2) for n in range(2, 40)])
        self.assertEqual(len(built(figure, ())), 40)
        figure = (("at", 1, 1), ("at", 4, 1)) + tuple([("part", n - 1, n - 2, 1, 2) for n in range(2, 40)])
        self.assertEqual(built(figure, ())[4], ((23, 8), (1, 1)))

    def test_new_lists(self):
        self.assertIsNot(made(T, ((1, 1), (2, 1))), made(T, ((1, 1), (2, 1))))
        for place in made(T, ((1, 1), (2, 1))):
            self.assertEqual([type(place), type(place[0]), type(place[0][0])], [tuple, tuple, int])


class HoldsTest(unittest.TestCase):
    def says(self, whether, word, *points):
        """A claim of the places that are told as x, y, x, y and so on."""
        claim = (word,) + tuple(range(len(points) // 2))
        places = at(*points)
        check_claim((("free",),) * len(places), claim)
        self.assertIs(holds(places, claim), whether, (word, points))
        self.assertIs(holds(tuple(places), claim), whether)

    def test_same(self):
        self.says(True, "same", 1, 2, 1, 2)
        self.says(True, "same", Fraction(1, 3), 2, Fraction(1, 3), 2)
        self.says(False, "same", 1, 2, 1, 3)
        self.says(False, "same", 1, 2, 2, 2)
        self.says(False, "same", 1, 2, 2, 4)

    def test_line(self):
        self.says(True, "line", 0, 0, 1, 2, -3, -6)
        self.says(False, "line", 0, 0, 1, 2, -3, -5)
        self.says(True, "line", 1, 2, 1, 2, 7, 9)
        self.says(True, "line", 1, 2, 7, 9, 7, 9)
        self.says(True, "line", 7, 9, 1, 2, 7, 9)
        self.says(True, "line", Fraction(1, 2), Fraction(1, 3), 1, Fraction(2, 3), 3, 2)

    def test_circle(self):
        self.says(True, "circle", 5, 0, 0, 5, -3, 4, 4, -3)
        self.says(False, "circle", 5, 0, 0, 5, -3, 4, 4, -4)
        self.says(True, "circle", 0, 0, 1, 1, 2, 2, 5, 5)
        self.says(False, "circle", 0, 0, 1, 1, 2, 2, 5, 6)
        self.says(False, "circle", 5, 6, 0, 0, 1, 1, 2, 2)
        self.says(True, "circle", 1, 2, 1, 2, 7, 3, 0, 4)
        self.says(True, "circle", 7, 3, 1, 2, 0, 4, 1, 2)
        self.says(False, "circle", 0, 0, 1, 0, 0, 1, 2, 2)
        self.says(True, "circle", 0, 0, Fraction(1, 2), 0, 0, Fraction(1, 3), Fraction(1, 2), Fraction(1, 3))

    def test_parallel(self):
        self.says(True, "parallel", 0, 0, 1, 2, 5, 5, 3, 1)
        self.says(False, "parallel", 0, 0, 1, 2, 5, 5, 7, 6)
        self.says(True, "parallel", 0, 0, 0, 0, 5, 5, 7, 6)
        self.says(True, "parallel", 0, 0, 1, 2, 5, 5, 5, 5)

    def test_upright(self):
        self.says(True, "upright", 0, 0, 1, 2, 5, 5, 3, 6)
        self.says(False, "upright", 0, 0, 1, 2, 5, 5, 6, 7)
        self.says(True, "upright", 0, 0, 0, 0, 5, 5, 7, 6)
        self.says(True, "upright", 0, 0, 1, 2, 5, 5, 5, 5)

    def test_long(self):
        self.says(True, "long", 0, 0, 3, 4, 1, 1, 1, 6)
        self.says(False, "long", 0, 0, 3, 4, 1, 1, 2, 6)
        self.says(True, "long", 0, 0, 0, 0, 1, 1, 1, 1)
        self.says(False, "long", 0, 0, 0, 0, 1, 1, 1, 2)
        self.says(True, "long", 0, 0, Fraction(1, 2), 0, 1, 1, 1, Fraction(3, 2))
        self.says(False, "long", 0, 0, Fraction(1, 2), 0, 1, 1, 1, Fraction(4, 3))

    def test_ratio(self):
        self.says(True, "ratio", 0, 0, 2, 0, 0, 0, 0, 3, 0, 0, 6, 0, 5, 5, 5, 6)
        self.says(False, "ratio", 0, 0, 2, 0, 0, 0, 0, 3, 0, 0, 5, 0, 5, 5, 5, 6)
        self.says(True, "ratio", 1, 1, 1, 1, 0, 0, 0, 3, 0, 0, 0, 0, 5, 5, 5, 6)
        self.says(True, "ratio", 0, 0, 0, 3, 1, 1, 1, 1, 5, 5, 5, 6, 2, 2, 2, 2)
        self.says(False, "ratio", 1, 1, 1, 1, 0, 0, 0, 3, 0, 0, 0, 1, 5, 5, 5, 6)

    def test_area(self):
        self.says(True, "area", 0, 0, 2, 0, 0, 3, 1, 1, 7, 1, 9, 2)
        self.says(False, "area", 0, 0, 2, 0, 0, 3, 1, 1, 9, 2, 7, 1)
        self.says(True, "area", 0, 0, 2, 0, 4, 0, 1, 1, 3, 3, 4, 4)
        self.says(False, "area", 0, 0, 2, 0, 4, 0, 1, 1, 3, 3, 4, 5)
        self.says(True, "area", 0, 0, Fraction(1, 2), 0, 0, 3, 1, 1, Fraction(5, 2), 1, 2, 2)

    def test_angle(self):
        self.says(True, "angle", 1, 0, 0, 0, 1, 1, 5, 7, 5, 5, 3, 7)
        self.says(False, "angle", 1, 0, 0, 0, 1, 1, 3, 7, 5, 5, 5, 7)
        # Angles of lines: half a turn more is no matter.
        self.says(True, "angle", 1, 0, 0, 0, 1, 1, 5, 3, 5, 5, 3, 7)
        self.says(True, "angle", 2, 2, 2, 2, 1, 1, 5, 3, 5, 5, 3, 9)
        self.says(True, "angle", 1, 0, 0, 0, 1, 1, 5, 3, 5, 5, 5, 5)

    def test_points_that_stand_there_twice(self):
        places = at(0, 0, 3, 1)
        for word, (many, _) in CLAIMS.items():
            self.assertIs(holds(places, (word,) + (1,) * many), True)
        self.assertIs(holds(places, ("long", 0, 1, 1, 0)), True)
        self.assertIs(holds(places, ("upright", 0, 1, 0, 1)), False)
        self.assertIs(holds(places, ("parallel", 0, 1, 1, 0)), True)

    def test_fewer_places_than_points(self):
        self.assertIs(holds(at(0, 0, 1, 1, 2, 2, 7, 8), ("line", 0, 2, 1)), True)
        self.assertIs(holds(made(T, ((1, 1), (0, 1))), ("same", 2, 3)), True)

    def test_many_claims(self):
        source = random.Random(29)
        seen = {}
        for _ in range(6000):
            word = source.choice(list(CLAIMS))
            many, says = CLAIMS[word]
            below = source.choice([1, 1, 2, 6])
            values = [(Fraction(source.randrange(-2, 3), source.randrange(1, below + 1)),
                       Fraction(source.randrange(-2, 3), source.randrange(1, below + 1))) for _ in range(5)]
            points = [source.randrange(5) for _ in range(many)]
            whether = says(*[values[p] for p in points])
            self.assertIs(holds([pairs(value) for value in values], (word, *points)), whether, (word, points, values))
            seen[word, whether] = seen.get((word, whether), 0) + 1
        for word in CLAIMS:
            self.assertGreater(seen[word, True], 20, word)
            self.assertGreater(seen[word, False], 20, word)
