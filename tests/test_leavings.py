import random
import unittest
from fractions import Fraction
from math import gcd, lcm

from figureclaims.coordinates import point_triples
from figureclaims.errors import TooGreat
from figureclaims.figures import parameters_of
from figureclaims.leavings import blocked, check_leaving, slope, spread, under
from figureclaims.polynomials import check_polynomial
from figureclaims.table import point_degrees, point_heights, terms
from tests.drawn import some_figure
from tests.helpers import OTHER_KINDS, nested, path_of, raised
from tests.polys import Poly, some_polynomial
from tests.test_coordinates import det, triples_by_the_table

# The document's example.
F = (("at", 0, 0), ("at", 4, 0), ("free",), ("part", 0, 2, 1, 2), ("round", 0, 1))


def put_under(p, leaving):
    """A Poly's terms with the told fractions put in, as a dict of Fractions."""
    found = {}
    for exponents, number in p.numbers.items():
        worth, rest = Fraction(number), []
        for exponent, told in zip(exponents, leaving):
            if told is None:
                rest.append(exponent)
            else:
                worth = worth * Fraction(*told) ** exponent
        found[tuple(rest)] = found.get(tuple(rest), 0) + worth
    return {exponents: worth for exponents, worth in found.items() if worth != 0}


def under_by_the_table(figure, leaving):
    found = []
    for triple in triples_by_the_table(figure):
        parts = [put_under(p, leaving) for p in triple]
        times = lcm(*[worth.denominator for part in parts for worth in part.values()])
        found.append(tuple([tuple(sorted([(e, int(worth * times)) for e, worth in part.items()])) for part in parts]))
    return found


def some_leaving(source, figure, running):
    """A leaving in which at most so many parameters run."""
    m = parameters_of(figure)
    told = []
    for _ in range(m):
        number = Fraction(source.choice([0, 0, 0, -4, -2, 1, 1, 3]), source.choice([1, 1, 2, 3, 10]))
        told.append((number.numerator, number.denominator))
    for k in source.sample(range(m), min(m, running)):
        told[k] = None
    return tuple(told)


def small_figures(source, many, most=400):
    """Figures with leavings of theirs, of few terms."""
    found = []
    while len(found) < many:
        figure = some_figure(source, source.randrange(3, 8))
        if max([terms(degree) for degree in point_degrees(figure)]) <= most:
            found.append((figure, some_leaving(source, figure, source.randrange(4))))
    return found


class CheckTest(unittest.TestCase):
    def finds(self, value, path):
        self.assertEqual(path_of(check_leaving, F, value), path, value)

    def test_leavings(self):
        for value in [
            (None, None, None), (None, (2, 1), None), ((0, 1), (-3, 7), (10 ** 39, 1)), (None, None, (0, 1)),
        ]:
            self.finds(value, None)
            self.assertIsNone(check_leaving(F, value))
        self.assertIsNone(check_leaving((), ()))
        self.assertIsNone(check_leaving(F[:2], ()))

    def test_no_tuple_of_as_many_members(self):
        for value in OTHER_KINDS + [(), (None,), (None,) * 2, (None,) * 4, [None] * 3, {0: None}, nested(39), "abc"]:
            self.finds(value, ())
        self.assertEqual(path_of(check_leaving, (), (None,)), ())
        self.assertEqual(path_of(check_leaving, (), None), ())

    def test_wrong_members(self):
        wrong = [value for value in OTHER_KINDS if value is not None] + [
            (1,), (1, 2, 3), (2, 4), (0, 2), (1, 0), (1, -1), (True, 1), (1, True), [1, 2], (1, None), (None, 1),
            ((1, 1), 1), ("1", 1), nested(38), (0, 0),
        ]
        for value in wrong:
            for k in range(3):
                for rest in (None, (1, 2)):
                    leaving = [rest] * 3
                    leaving[k] = value
                    self.finds(tuple(leaving), (k,))
            self.finds((None, value, value), (1,))
            self.finds((value, 0, value), (0,))

    def test_a_figure_that_is_too_great(self):
        figure = (("free",),) * 4 + (("middle", 0, 1, 2), ("middle", 4, 1, 3), ("foot", 0, 5, 5))
        self.assertIsNone(check_leaving(figure, (None,) * 8))
        self.assertEqual(path_of(check_leaving, figure, (None,) * 7 + (0,)), (7,))


class UnderTest(unittest.TestCase):
    def test_the_example(self):
        self.assertEqual(under(F, (None, None, (0, 1))), [
            ((), (), (((0, 0), 1),)),
            ((((0, 0), 4),), (), (((0, 0), 1),)),
            ((((1, 0), 1),), (((0, 1), 1),), (((0, 0), 1),)),
            ((((1, 0), 1),), (((0, 1), 1),), (((0, 0), 2),)),
            ((((0, 0), 4),), (), (((0, 0), 1),)),
        ])
        self.assertEqual(under(F, (None, (2, 1), None))[2:], [
            ((((1, 0), 1),), (((0, 0), 2),), (((0, 0), 1),)),
            ((((1, 0), 1),), (((0, 0), 2),), (((0, 0), 2),)),
            ((((0, 0), 4), ((0, 2), -4)), (((0, 1), 8),), (((0, 0), 1), ((0, 2), 1))),
        ])

    def test_fractions_that_ask_a_multiple(self):
        told = under(F, (None, (3, 7), (1, 2)))
        self.assertEqual(told[2], ((((1,), 7),), (((0,), 3),), (((0,), 7),)))
        self.assertEqual(told[3], ((((1,), 7),), (((0,), 3),), (((0,), 14),)))
        # 4 (1 - 1/4), 8 / 2 and 1 + 1/4 are 3, 4 and 5/4.
        self.assertEqual(told[4], ((((0,), 12),), (((0,), 16),), (((0,), 5),)))
        figure = (("free",), ("free",), ("shift", 0, 1, 1))
        self.assertEqual(under(figure, ((1, 2), (1, 3), (1, 4), (1, 6))), [
            ((((), 3),), (((), 2),), (((), 6),)), ((((), 3),), (((), 2),), (((), 12),)), ((), (), (((), 1),)),
        ])

    def test_all_told_and_all_running(self):
        self.assertEqual(under(F, (None, None, None)), point_triples(F))
        self.assertEqual(under(F, ((1, 1), (2, 1), (0, 1))), [
            ((), (), (((), 1),)), ((((), 4),), (), (((), 1),)), ((((), 1),), (((), 2),), (((), 1),)),
            ((((), 1),), (((), 2),), (((), 2),)), ((((), 4),), (), (((), 1),)),
        ])
        self.assertEqual(under((), ()), [])
        source = random.Random(269)
        for figure, _ in small_figures(source, 20):
            self.assertEqual(under(figure, (None,) * parameters_of(figure)), point_triples(figure))

    def test_nothing_is_divided_out(self):
        figure = (("at", 0, 0), ("at", 6, 0), ("on", 0, 1), ("part", 0, 2, 2, 4))
        self.assertEqual(under(figure, ((1, 3),))[2:], [((((), 2),), (), (((), 1),)), ((((), 4),), (), (((), 4),))])
        self.assertEqual(under(figure, ((5, 1),))[3], ((((), 60),), (), (((), 4),)))

    def test_as_the_table_tells(self):
        source = random.Random(271)
        multiples = 0
        for figure, leaving in small_figures(source, 200):
            expected = under_by_the_table(figure, leaving)
            told = under(figure, leaving)
            self.assertEqual(told, expected, (figure, leaving))
            many = leaving.count(None)
            for triple in told:
                self.assertEqual([type(triple), len(triple)], [tuple, 3])
                for p in triple:
                    self.assertIsNone(check_polynomial(many, p))
            whole = [worth for triple in triples_by_the_table(figure) for p in triple
                     for worth in put_under(p, leaving).values()]
            multiples += any([worth.denominator > 1 for worth in whole])
        self.assertGreater(multiples, 60)

    def test_the_least_multiple(self):
        source = random.Random(277)
        for figure, leaving in small_figures(source, 60):
            for triple, polys in zip(under(figure, leaving), triples_by_the_table(figure)):
                parts = [put_under(p, leaving) for p in polys]
                for p, part in zip(triple, parts):
                    self.assertEqual([e for e, _ in p], sorted(part))
                ratios = {Fraction(number) / part[e] for p, part in zip(triple, parts) for e, number in p}
                self.assertLessEqual(len(ratios), 1)
                for times in ratios:
                    numbers = [number for p in triple for _, number in p]
                    self.assertTrue(times.denominator == 1 and times > 0)
                    # A lesser multiple would leave fractions.
                    self.assertEqual(gcd(int(times), *numbers), 1)


class BlockedTest(unittest.TestCase):
    def test_at_no_position_of_the_leaving(self):
        # The foot of 3 on the line of 0 and 2 can be done, but not where 2 is at 0.
        figure = (("at", 0, 0), ("at", 4, 0), ("free",), ("at", 1, 1), ("foot", 3, 0, 2), ("middle", 0, 1, 2))
        self.assertIsNone(blocked(figure, (None, None)))
        self.assertEqual(blocked(figure, ((0, 1), (0, 1))), 4)
        self.assertIsNone(blocked(figure, (None, (1, 2))))
        self.assertIsNone(blocked(figure, ((0, 1), None)))
        # All points on one line.
        self.assertEqual(blocked(figure, (None, (0, 1))), 5)
        self.assertEqual(blocked(figure, ((1, 3), (0, 1))), 5)
        self.assertIsNone(blocked(figure, ((1, 3), (1, 5))))

    def test_each_word(self):
        a = (("at", 0, 0), ("at", 4, 0), ("free",), ("at", 3, 5))
        for step, told, other in [
            (("meet", 0, 1, 2, 3), (None, (5, 1)), (None, (4, 1))),
            (("foot", 3, 0, 2), ((0, 1), (0, 1)), ((0, 1), (1, 7))),
            (("foot", 2, 0, 0), (None, None), None),
            (("mirror", 3, 2, 1), ((4, 1), (0, 1)), ((4, 1), None)),
            (("middle", 0, 1, 2), (None, (0, 1)), ((0, 1), (1, 100))),
            (("middle", 2, 0, 3), ((3, 2), (5, 2)), ((3, 2), (2, 1))),
            (("other", 2, 3, 0), ((3, 1), (5, 1)), (None, (5, 1))),
            (("second", 0, 3, 2), ((3, 1), (5, 1)), ((3, 1), None)),
            (("inverse", 2, 3, 0), ((3, 1), (5, 1)), ((2, 1), (5, 1))),
        ]:
            self.assertEqual(blocked(a + (step,), told), 4, step)
            if other is not None:
                self.assertIsNone(blocked(a + (step,), other), step)
        for step in [("on", 2, 2), ("round", 2, 2), ("part", 2, 2, 0, 1), ("quarter", 2, 2), ("shift", 2, 2, 2)]:
            leaving = ((0, 1), (0, 1)) + (None,) * (step[0] in ("on", "round"))
            self.assertIsNone(blocked(a + (step,), leaving))

    def test_the_first_nought(self):
        source = random.Random(281)
        seen = {}
        for figure, leaving in small_figures(source, 300):
            noughts = [k for k, triple in enumerate(under_by_the_table(figure, leaving)) if not triple[2]]
            expected = noughts[0] if noughts else None
            self.assertEqual(blocked(figure, leaving), expected, (figure, leaving))
            always = [k for k, triple in enumerate(point_triples(figure)) if not triple[2]]
            seen[expected is None, expected in always] = True
        # None, one that can be done nowhere, and one that can, but not under the leaving.
        self.assertEqual(len(seen), 3)

    def test_without_points(self):
        self.assertIsNone(blocked((), ()))


class SlopeTest(unittest.TestCase):
    P = (((0, 1), -2), ((0, 3), 5), ((1, 0), 3), ((1, 1), 1), ((4, 2), 7))

    def test_by_hand(self):
        self.assertEqual(slope(self.P, 0), (((0, 0), 3), ((0, 1), 1), ((3, 2), 28)))
        self.assertEqual(slope(self.P, 1), (((0, 0), -2), ((0, 2), 15), ((1, 0), 1), ((4, 1), 14)))
        self.assertEqual(slope((), 0), ())
        self.assertEqual(slope((((0, 0, 0), 4),), 2), ())
        self.assertEqual(slope((((0, 5, 1), 4),), 0), ())
        self.assertEqual(slope((((3,), -1),), 0), (((2,), -3),))

    def test_products(self):
        source = random.Random(283)
        for _ in range(60):
            m = source.randrange(1, 4)
            k = source.randrange(m)
            p, q = [Poly(m, some_polynomial(source, m, 5, 4, 9)) for _ in range(2)]
            one, other = [Poly(m, slope(part.told(), k)) for part in (p, q)]
            self.assertEqual(slope((p * q).told(), k), (one * q + p * other).told())
            self.assertIsNone(check_polynomial(m, slope(p.told(), k)))


class SpreadTest(unittest.TestCase):
    def test_by_hand(self):
        # x, y, 1 and its slopes 1, 0, 0 and 0, 1, 0: the determinant is 1.
        self.assertEqual(spread(F, (None, None, (0, 1)), 2, 0, 1), (((0, 0), 1),))
        # x, y, 2; 1, 0, 0; 0, 1, 0.
        self.assertEqual(spread(F, (None, None, (0, 1)), 3, 0, 1), (((0, 0), 2),))
        self.assertEqual(spread(F, (None, None, None), 3, 0, 2), ())
        self.assertEqual(spread(F, (None, None, None), 4, 0, 1), ())
        self.assertEqual(spread(F, (None, None, None), 0, 1, 2), ())
        # x t, 2 t, 1; t, 0, 0; x, 2, 0. And t, 3 y t, 3; 0, 3 t, 0; 1, 3 y, 0.
        figure = (("at", 0, 0), ("free",), ("on", 0, 1))
        self.assertEqual(spread(figure, (None, (2, 1), None), 2, 0, 2), (((0, 1), 2),))
        self.assertEqual(spread(figure, ((1, 3), None, None), 2, 1, 2), (((0, 1), -9),))
        self.assertEqual(spread(figure, (None, None, None), 2, 0, 1), (((0, 0, 2), 1),))

    def test_of_a_path_that_lies_on_a_curve(self):
        # The points 3 and 4 run on the lines from 0 to 1 and to 2, which runs round 0.
        figure = (("at", 0, 0), ("at", 4, 0), ("round", 0, 1), ("on", 0, 1), ("on", 0, 2), ("foot", 1, 0, 4))
        leaving = (None, None, None)
        triple = under(figure, leaving)[5]
        # The polynomials hang on where 4 is, but the place does not.
        self.assertNotEqual(slope(triple[2], 0), ())
        self.assertNotEqual(slope(triple[2], 2), ())
        for u, v in [(0, 1), (0, 2), (1, 2)]:
            self.assertEqual(spread(figure, leaving, 5, u, v), ())
            self.assertEqual(spread(figure, leaving, 2, u, v), ())
        self.assertEqual(spread(figure, (None, (1, 2), None), 5, 0, 2), ())
        self.assertEqual(spread(figure, leaving, 4, 0, 1), ())
        self.assertNotEqual(spread(figure, leaving, 4, 0, 2), ())

    def test_as_determinants(self):
        source = random.Random(293)
        many = 0
        for figure, leaving in small_figures(source, 200, 120):
            running = [k for k, told in enumerate(leaving) if told is None]
            for i, u in enumerate(running):
                for j, v in list(enumerate(running))[i + 1:]:
                    point = source.randrange(len(figure))
                    triple = under_by_the_table(figure, leaving)[point]
                    rows = [[Poly(len(running), p) for p in row] for row in (
                        triple, [slope(p, i) for p in triple], [slope(p, j) for p in triple],
                    )]
                    expected = det(*rows).told()
                    self.assertEqual(spread(figure, leaving, point, u, v), expected, (figure, leaving))
                    many += expected != ()
        self.assertGreater(many, 20)


class LimitsTest(unittest.TestCase):
    def test_too_great(self):
        figure = (("free",),) * 4 + (("middle", 0, 1, 2), ("middle", 4, 1, 3), ("foot", 0, 5, 5))
        for leaving in [(None,) * 8, ((1, 1),) * 8]:
            self.assertIs(type(raised(under, figure, leaving)), TooGreat)
            self.assertIs(type(raised(blocked, figure, leaving)), TooGreat)
        self.assertIs(type(raised(spread, figure, (None,) * 8, 0, 0, 1)), TooGreat)
        # Also if it is one behind a step that can be done nowhere.
        figure = (("at", 0, 0), ("foot", 0, 0, 0)) + figure[:4] + (("middle", 2, 3, 4), ("inverse", 6, 6, 5))
        self.assertIs(type(raised(blocked, figure, (None,) * 8)), TooGreat)

    def test_many_terms(self):
        figure = (("at", 31, -7), ("at", 5, 90), ("free",), ("on", 0, 1), ("mirror", 2, 0, 1), ("mirror", 0, 2, 3))
        figure = figure + (("middle", 2, 3, 5), ("foot", 0, 2, 3), ("part", 6, 4, 1, 3), ("on", 0, 4), ("foot", 2, 6, 1))
        leaving = (None, (123457, 999983), None, (-5, 7))
        degrees = [(d[0], d[2]) for d in point_degrees(figure)]
        self.assertGreater(max([terms(degree) for degree in degrees]), 100)
        self.assertGreater(max(point_heights(figure)).bit_length(), 60)
        triples = under(figure, leaving)
        self.assertIsNone(blocked(figure, leaving))
        place = [Fraction(3), Fraction(-2, 5)]
        values = [[Poly(2, p).at(place) for p in triple] for triple in triples]
        whole = [Poly(4, p) for p in point_triples(figure)[10]]
        expected = [p.at([3, Fraction(123457, 999983), Fraction(-2, 5), Fraction(-5, 7)]) for p in whole]
        x, y, w = values[10]
        self.assertEqual((x / w, y / w), (expected[0] / expected[2], expected[1] / expected[2]))
        self.assertNotEqual(spread(figure, leaving, 10, 0, 2), ())
