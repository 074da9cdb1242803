import random
import unittest

from figureclaims.polynomials import (
    check_polynomial, constant, degrees_of, poly_by, poly_less, poly_power, poly_sum, poly_times,
    unknown, whole_value,
)
from figureclaims.putting import first_place, is_nought_on, put_all, put_in
from tests.polys import P, Poly, grid_of, some_polynomial


def falling(m, k, many, first=0):
    """The product of x - n, for so many n from the first one on, x being the unknown k of m."""
    product = constant(m, 1)
    for n in range(first, first + many):
        product = poly_times(product, poly_less(unknown(m, k), constant(m, n)))
    return product


class PutInTest(unittest.TestCase):
    def test_the_example(self):
        self.assertEqual(put_in(P, 1, 3), (((0,), -6), ((1,), 6)))

    def test_nought_and_negative_integers(self):
        self.assertEqual(put_in(P, 0, 0), (((1,), -2),))
        self.assertEqual(put_in(P, 1, 0), (((1,), 3),))
        self.assertEqual(put_in(P, 0, -3), (((0,), -9), ((1,), -5)))
        self.assertEqual(put_in(P, 1, -3), (((0,), 6),))
        self.assertEqual(put_in(P, 0, 2), (((0,), 6),))

    def test_what_becomes_nought(self):
        p = poly_sum(poly_times(P, unknown(2, 0)), ())
        self.assertEqual(put_in(p, 0, 0), ())
        self.assertEqual(put_in((), 0, 5), ())
        self.assertEqual(put_in((((3,), 4),), 0, 0), ())
        self.assertEqual(put_in((((3,), 4), ((4,), -2)), 0, 2), ())
        self.assertEqual(put_in((((3,), 4),), 0, -2), (((), -32),))
        self.assertEqual(put_in(constant(1, 6), 0, 0), (((), 6),))

    def test_in_order(self):
        p = (((0, 5, 1), 1), ((1, 0, 2), 1), ((2, 3, 0), 1))
        self.assertEqual(put_in(p, 0, 1), (((0, 2), 1), ((3, 0), 1), ((5, 1), 1)))
        self.assertEqual(put_in(p, 1, 2), (((0, 1), 32), ((1, 2), 1), ((2, 0), 8)))
        self.assertEqual(put_in(p, 2, 3), (((0, 5), 3), ((1, 0), 9), ((2, 3), 1)))

    def test_values(self):
        source = random.Random(53)
        for _ in range(200):
            m = source.choice([1, 2, 4, 8])
            p = some_polynomial(source, m, 12, 3, 9)
            place = tuple([source.randrange(-4, 5) for _ in range(m)])
            k = source.randrange(m)
            left = put_in(p, k, place[k])
            self.assertIsNone(check_polynomial(m - 1, left))
            self.assertEqual(whole_value(left, place[:k] + place[k + 1:]), whole_value(p, place))


class PutAllTest(unittest.TestCase):
    def test_integers_and_unknowns(self):
        self.assertEqual(put_all(1, P, (unknown(1, 0), constant(1, 3))), put_in(P, 1, 3))
        self.assertEqual(put_all(2, P, (unknown(2, 0), unknown(2, 1))), P)
        turned = (((0, 1), 3), ((1, 0), -2), ((1, 1), 1))
        self.assertEqual(put_all(2, P, (unknown(2, 1), unknown(2, 0))), turned)
        self.assertEqual(put_all(0, P, (constant(0, 5), constant(0, -3))), constant(0, 6))
        self.assertEqual(put_all(1, P, (unknown(1, 0),) * 2), (((1,), 1), ((2,), 1)))

    def test_nought(self):
        self.assertEqual(put_all(3, (), ((), unknown(3, 0))), ())
        self.assertEqual(put_all(3, (), ()), ())
        self.assertEqual(put_all(2, P, ((), ())), ())
        self.assertEqual(put_all(2, poly_sum(P, constant(2, 5)), ((), ())), constant(2, 5))
        self.assertEqual(put_all(2, P, (unknown(2, 1), ())), poly_by(unknown(2, 1), 3))

    def test_no_unknowns(self):
        self.assertEqual(put_all(3, constant(0, 7), ()), constant(3, 7))
        self.assertEqual(put_all(0, constant(0, 7), ()), constant(0, 7))

    def test_what_goes_out(self):
        x, y = unknown(2, 0), unknown(2, 1)
        p = (((0, 1), -1), ((2, 0), 1))
        self.assertEqual(put_all(2, p, (x, poly_times(x, x))), ())
        self.assertEqual(put_all(2, p, (poly_sum(x, y), poly_times(x, x))), (((0, 2), 1), ((1, 1), 2)))

    def test_worked_out_another_way(self):
        source = random.Random(59)
        for _ in range(150):
            m, n = source.choice([0, 1, 2, 3, 5]), source.choice([0, 1, 2, 3])
            p = some_polynomial(source, n, 6, 3, 4)
            others = tuple([some_polynomial(source, m, 3, 2, 3) for _ in range(n)])
            total = Poly(m)
            for exponents, number in p:
                product = Poly(m, constant(m, number))
                for other, exponent in zip(others, exponents):
                    product = product * Poly(m, poly_power(m, other, exponent))
                total = total + product
            made = put_all(m, p, others)
            self.assertEqual(made, total.told())
            self.assertIsNone(check_polynomial(m, made))
            place = tuple([source.randrange(-3, 4) for _ in range(m)])
            worths = tuple([whole_value(other, place) for other in others])
            self.assertEqual(whole_value(made, place), whole_value(p, worths))

    def test_many_terms(self):
        source = random.Random(61)
        p = some_polynomial(source, 8, 20000, 200, 1000)
        turn = tuple([unknown(8, (k + 3) % 8) for k in range(8)])
        expected = sorted([(e[-3:] + e[:-3], n) for e, n in p])
        self.assertEqual(put_all(8, p, turn), tuple(expected))
        p = some_polynomial(source, 2, 4000, 70, 1000)
        there = (poly_sum(unknown(2, 0), constant(2, 1)), poly_less(unknown(2, 1), unknown(2, 0)))
        x = poly_less(unknown(2, 0), constant(2, 1))
        back = (x, poly_sum(unknown(2, 1), x))
        self.assertEqual(put_all(2, put_all(2, p, there), back), p)


class FirstPlaceTest(unittest.TestCase):
    def test_the_example(self):
        self.assertEqual(first_place(2, P), (0, 1))

    def test_nought(self):
        for m in (0, 1, 5):
            self.assertIsNone(first_place(m, ()))

    def test_constants(self):
        self.assertEqual(first_place(0, constant(0, -2)), ())
        self.assertEqual(first_place(3, constant(3, 5)), (0, 0, 0))

    def test_nought_at_many_places(self):
        self.assertEqual(first_place(1, falling(1, 0, 7)), (7,))
        self.assertEqual(first_place(1, falling(1, 0, 7, 1)), (0,))
        p = poly_times(falling(3, 0, 2), poly_times(falling(3, 1, 3), falling(3, 2, 4)))
        self.assertEqual(first_place(3, p), (2, 3, 4))
        self.assertEqual(first_place(3, poly_sum(p, falling(3, 2, 5))), (0, 0, 5))
        self.assertEqual(first_place(2, poly_less(unknown(2, 0), unknown(2, 1))), (0, 1))
        apart = poly_times(unknown(2, 0), poly_less(unknown(2, 0), unknown(2, 1)))
        self.assertEqual(first_place(2, apart), (1, 0))

    def test_by_going_through_the_grid(self):
        source = random.Random(67)
        for _ in range(200):
            m = source.choice([1, 2, 3])
            p = some_polynomial(source, m, source.choice([1, 3, 8]), 3, 3)
            for _ in range(source.randrange(3)):
                k = source.randrange(m)
                p = poly_times(p, falling(m, k, source.randrange(1, 3), source.randrange(2)))
            places = [place for place in grid_of(degrees_of(m, p)) if whole_value(p, place) != 0]
            self.assertEqual(first_place(m, p), places[0] if places else None)

    def test_grids_that_are_far_too_great(self):
        source = random.Random(71)
        p = some_polynomial(source, 8, 20000, 200, 1000)
        place = first_place(8, p)
        self.assertNotEqual(whole_value(p, place), 0)
        self.assertLess(sum(place), 10)
        last = falling(8, 7, 60)
        for k in range(7):
            last = poly_times(last, (((0,) * k + (200,) + (0,) * (7 - k), 1),))
        self.assertEqual(first_place(8, last), (1,) * 7 + (60,))
        many = poly_times(falling(8, 0, 120), tuple([((0, e // 10, e % 10) + (0,) * 5, 1) for e in range(100)]))
        self.assertEqual(first_place(8, many), (120,) + (0,) * 7)


class IsNoughtOnTest(unittest.TestCase):
    def test_at_below_and_above_the_degrees(self):
        self.assertIs(is_nought_on(2, P, (0, 0)), True)
        self.assertIs(is_nought_on(2, P, (0, 1)), False)
        self.assertIs(is_nought_on(2, P, (1, 0)), False)
        self.assertIs(is_nought_on(2, P, (1, 1)), False)
        self.assertIs(is_nought_on(2, P, (9, 9)), False)
        p = falling(1, 0, 5)
        for limit in range(9):
            self.assertIs(is_nought_on(1, p, (limit,)), limit < 5)
        apart = poly_times(falling(2, 0, 2), falling(2, 1, 3))
        for place in grid_of((4, 5)):
            self.assertIs(is_nought_on(2, apart, place), place[0] < 2 or place[1] < 3)

    def test_nought_at_the_last_place_alone(self):
        p = poly_less(unknown(2, 0), constant(2, 3))
        self.assertIs(is_nought_on(2, p, (3, 3)), False)
        self.assertIs(is_nought_on(2, poly_times(p, falling(2, 0, 3)), (3, 0)), True)
        self.assertIs(is_nought_on(2, poly_times(p, falling(2, 0, 2)), (3, 0)), False)

    def test_nought_and_constants(self):
        self.assertIs(is_nought_on(0, (), ()), True)
        self.assertIs(is_nought_on(0, constant(0, 2), ()), False)
        self.assertIs(is_nought_on(3, (), (4, 0, 2)), True)
        self.assertIs(is_nought_on(3, constant(3, -1), (4, 0, 2)), False)

    def test_by_going_through_the_grid(self):
        source = random.Random(73)
        seen = []
        for _ in range(400):
            m = source.choice([1, 2, 3])
            p = ()
            for _ in range(source.randrange(1, 3)):
                k = source.randrange(m)
                part = poly_times(falling(m, k, source.randrange(1, 4)), some_polynomial(source, m, 3, 2, 3))
                p = poly_sum(p, part)
            limits = tuple([source.randrange(4) for _ in range(m)])
            expected = all([whole_value(p, place) == 0 for place in grid_of(limits)])
            self.assertIs(is_nought_on(m, p, limits), expected, (p, limits))
            seen.append(expected)
        self.assertGreater(seen.count(True), 50)
        self.assertGreater(seen.count(False), 50)

    def test_great_ones(self):
        source = random.Random(79)
        self.assertIs(is_nought_on(8, some_polynomial(source, 8, 20000, 200, 99), (2,) * 8), False)
        self.assertIs(is_nought_on(1, falling(1, 0, 200), (19999,)), False)
        self.assertIs(is_nought_on(2, falling(2, 1, 150), (132, 149)), True)
        self.assertIs(is_nought_on(2, falling(2, 1, 150), (131, 150)), False)
        p = ()
        for k in range(8):
            p = poly_sum(p, poly_times(falling(8, k, 3), some_polynomial(source, 8, 40, 90, 50)))
        self.assertIs(is_nought_on(8, p, (2,) * 8), True)
        self.assertIs(is_nought_on(8, poly_sum(p, falling(8, 3, 2)), (2,) * 8), False)
        many = poly_times(falling(8, 2, 4), some_polynomial(source, 8, 4000, 90, 50))
        self.assertIs(is_nought_on(8, many, (4, 4, 3, 4, 4, 4, 0, 0)), True)
