import random
import unittest
from fractions import Fraction

from figureclaims.polynomials import (
    check_polynomial, constant, degrees_of, height_of, poly_by, poly_less, poly_power, poly_sum,
    poly_times, unknown, value_at, whole_value,
)
from tests.helpers import OTHER_KINDS, nested, path_of
from tests.polys import P, Poly, some_polynomial


class CheckTest(unittest.TestCase):
    def finds(self, m, value, path):
        self.assertEqual(path_of(check_polynomial, m, value), path, (m, value))

    def test_right_ones(self):
        for m, value in [
            (0, ()), (3, ()), (2, P), (0, (((), 5),)), (0, (((), -10 ** 1999),)), (1, (((7,), -1),)),
            (2, (((0, 10 ** 60), 1), ((1, 0), 1))), (8, (((0,) * 8, 1), ((0,) * 7 + (1,), 1))),
        ]:
            self.finds(m, value, None)
            self.assertIsNone(check_polynomial(m, value))

    def test_no_tuple(self):
        for value in OTHER_KINDS + [[], [((0, 0), 1)], nested(39), {(0, 0): 1}]:
            if value != ():
                self.finds(2, value, () if not isinstance(value, tuple) else (0,))

    def test_no_pair(self):
        for term in OTHER_KINDS + [(), ((0, 0),), ((0, 0), 1, 1), [(0, 0), 1], nested(38)]:
            self.finds(2, (term,), (0,))
            self.finds(2, (((0, 0), 1), term, None), (1,))

    def test_no_exponents(self):
        for exponents in OTHER_KINDS + [(), (0,), (0, 0, 0), [0, 0], ((0, 0),)]:
            self.finds(2, ((exponents, 1),), (0, 0))
            self.finds(2, (((0, 0), 1), ((0, 1), 1), (exponents, 0)), (2, 0))
        self.finds(0, (((0,), 1),), (0, 0))
        self.finds(8, (((0,) * 7, 1),), (0, 0))

    def test_no_exponent(self):
        for exponent in [None, True, False, -1, "0", (0,), [0], {}]:
            self.finds(2, (((exponent, 0), 1),), (0, 0, 0))
            self.finds(2, (((0, 0), 1), ((0, exponent), 0)), (1, 0, 1))
        self.finds(2, (((-1, -1), 1),), (0, 0, 0))
        self.finds(3, (((0, -10 ** 39, -1), 1),), (0, 0, 1))

    def test_not_behind_the_one_before(self):
        self.finds(2, (((0, 1), 1), ((0, 1), 1)), (1, 0))
        self.finds(2, (((0, 1), 1), ((0, 0), 1)), (1, 0))
        self.finds(2, (((1, 0), 1), ((0, 5), 1)), (1, 0))
        self.finds(2, (((0, 0), 1), ((1, 0), 1), ((1, 0), 1)), (2, 0))
        self.finds(0, (((), 1), ((), 1)), (1, 0))
        # Ahead of the number, and behind exponents that are no numbers.
        self.finds(2, (((0, 1), 1), ((0, 1), 0)), (1, 0))
        self.finds(2, (((1, 1), 1), ((0, True), 1)), (1, 0, 1))

    def test_no_number(self):
        for number in [None, True, False, 0, "1", (1,), [1], {}]:
            self.finds(2, (((0, 0), number),), (0, 1))
            self.finds(2, (((0, 0), 1), ((0, 1), number), ((0, 0), 0)), (1, 1))

    def test_the_first_wrong_term(self):
        self.finds(1, (((0,), 0), 5), (0, 1))
        self.finds(1, (((0,), 1), ((1,), 0), ((1,), 1)), (1, 1))


class MadeTest(unittest.TestCase):
    def test_constant(self):
        self.assertEqual(constant(2, 5), (((0, 0), 5),))
        self.assertEqual(constant(2, -5), (((0, 0), -5),))
        self.assertEqual(constant(0, 7), (((), 7),))
        self.assertEqual(constant(3, 0), ())
        self.assertEqual(constant(0, 0), ())

    def test_unknown(self):
        self.assertEqual(unknown(1, 0), (((1,), 1),))
        self.assertEqual(unknown(3, 0), (((1, 0, 0), 1),))
        self.assertEqual(unknown(3, 2), (((0, 0, 1), 1),))
        self.assertEqual(unknown(8, 4), (((0, 0, 0, 0, 1, 0, 0, 0), 1),))


class SumsTest(unittest.TestCase):
    def test_the_example(self):
        square = (((0, 2), 4), ((1, 1), -12), ((1, 2), -4), ((2, 0), 9), ((2, 1), 6), ((2, 2), 1))
        self.assertEqual(poly_times(P, P), square)
        self.assertEqual(poly_power(2, P, 2), square)
        self.assertEqual(poly_sum(P, P), poly_by(P, 2))
        self.assertEqual(poly_less(P, P), ())
        self.assertEqual(degrees_of(2, P), (1, 1))
        self.assertEqual(height_of(P), 6)
        self.assertEqual(degrees_of(2, square), (2, 2))
        self.assertEqual(square[-1], ((2, 2), 1))

    def test_terms_that_go_out(self):
        x, y = unknown(2, 0), unknown(2, 1)
        self.assertEqual(poly_sum(poly_sum(x, y), poly_by(y, -1)), x)
        self.assertEqual(poly_less(poly_sum(x, y), x), y)
        self.assertEqual(poly_times(poly_sum(x, y), poly_less(x, y)), (((0, 2), -1), ((2, 0), 1)))
        one = constant(1, 1)
        z = unknown(1, 0)
        self.assertEqual(
            poly_times(poly_less(z, one), poly_sum(poly_sum(one, z), poly_power(1, z, 2))),
            (((0,), -1), ((3,), 1)),
        )

    def test_nought(self):
        for m in (0, 1, 4):
            p = constant(m, 3)
            self.assertEqual(poly_sum(p, ()), p)
            self.assertEqual(poly_sum((), p), p)
            self.assertEqual(poly_less(p, ()), p)
            self.assertEqual(poly_less((), p), constant(m, -3))
            self.assertEqual(poly_times(p, ()), ())
            self.assertEqual(poly_times((), p), ())
            self.assertEqual(poly_by(p, 0), ())
            self.assertEqual(poly_by((), 5), ())
            self.assertEqual(degrees_of(m, ()), (0,) * m)
        self.assertEqual([poly_sum((), ()), poly_less((), ()), poly_times((), ())], [(), (), ()])
        self.assertEqual(height_of(()), 0)

    def test_powers(self):
        self.assertEqual(poly_power(2, P, 0), constant(2, 1))
        self.assertEqual(poly_power(2, P, 1), P)
        self.assertEqual(poly_power(2, P, 3), poly_times(P, poly_times(P, P)))
        self.assertEqual(poly_power(2, (), 0), constant(2, 1))
        self.assertEqual(poly_power(0, (), 0), (((), 1),))
        self.assertEqual(poly_power(3, (), 1), ())
        self.assertEqual(poly_power(3, (), 7), ())
        self.assertEqual(poly_power(0, constant(0, -3), 5), constant(0, -243))
        self.assertEqual(poly_power(3, unknown(3, 1), 200), (((0, 200, 0), 1),))
        self.assertEqual(poly_power(3, constant(3, -1), 10 ** 30 + 1), constant(3, -1))
        row = poly_power(1, poly_sum(unknown(1, 0), constant(1, 1)), 4)
        self.assertEqual(row, (((0,), 1), ((1,), 4), ((2,), 6), ((3,), 4), ((4,), 1)))

    def test_powers_are_products(self):
        source = random.Random(31)
        for m in (0, 1, 2, 4):
            p = some_polynomial(source, m, 4, 3, 5)
            product = constant(m, 1)
            for n in range(9):
                self.assertEqual(poly_power(m, p, n), product)
                product = poly_times(product, p)

    def test_worked_out_another_way(self):
        source = random.Random(37)
        for m in (0, 1, 2, 4, 8):
            for _ in range(60):
                size = source.choice([1, 3, 10 ** 30])
                p, q = [
                    some_polynomial(source, m, source.choice([0, 1, 5, 30]), source.choice([1, 3, 9]), size)
                    for _ in range(2)
                ]
                n = source.randrange(-9, 10)
                self.assertEqual(poly_sum(p, q), (Poly(m, p) + Poly(m, q)).told())
                self.assertEqual(poly_less(p, q), (Poly(m, p) - Poly(m, q)).told())
                self.assertEqual(poly_times(p, q), (Poly(m, p) * Poly(m, q)).told())
                self.assertEqual(poly_by(p, n), (Poly(m, p) * n).told())
                for made in (poly_sum(p, q), poly_less(p, q), poly_times(p, q)):
                    self.assertIsNone(check_polynomial(m, made))
                if p and q:
                    self.product_holds(m, p, q)

    def product_holds(self, m, p, q):
        product = poly_times(p, q)
        added = tuple([a + b for a, b in zip(degrees_of(m, p), degrees_of(m, q))])
        self.assertEqual(degrees_of(m, product), added)
        exponents = tuple([a + b for a, b in zip(p[-1][0], q[-1][0])])
        self.assertEqual(product[-1], (exponents, p[-1][1] * q[-1][1]))
        self.assertLessEqual(height_of(product), height_of(p) * height_of(q))
        self.assertLessEqual(height_of(poly_less(p, q)), height_of(p) + height_of(q))

    def test_dense_products(self):
        # Numbers of both signs, at the edges of what a product's numbers may be.
        for size in (1, 7, 8, 15, 16, 10 ** 20):
            for signs in ((1, 1), (1, -1), (-1, -1)):
                p = tuple([((k,), signs[k % 2] * size) for k in range(40)])
                q = tuple([((k,), signs[0] * size) for k in range(30)])
                self.assertEqual(poly_times(p, q), (Poly(1, p) * Poly(1, q)).told())
                self.assertEqual(poly_times(q, p), (Poly(1, p) * Poly(1, q)).told())
        p = tuple([((k + 5, 7), 1) for k in range(50)])
        q = tuple([((0, k + 3), -1) for k in range(50)])
        self.assertEqual(poly_times(p, q), (Poly(2, p) * Poly(2, q)).told())

    def test_degrees_and_heights(self):
        p = (((0, 0, 9), 1), ((2, 0, 1), -10 ** 30), ((3, 0, 0), 4))
        self.assertEqual(degrees_of(3, p), (3, 0, 9))
        self.assertEqual(height_of(p), 10 ** 30 + 5)
        self.assertEqual(degrees_of(0, constant(0, -6)), ())
        self.assertEqual(height_of(constant(0, -6)), 6)
        self.assertIs(type(degrees_of(3, p)), tuple)

    def test_great_exponents(self):
        p = (((0, 10 ** 50), 2), ((10 ** 50, 0), 1))
        self.assertEqual(
            poly_times(p, p),
            (((0, 2 * 10 ** 50), 4), ((10 ** 50, 10 ** 50), 4), ((2 * 10 ** 50, 0), 1)),
        )


class ValuesTest(unittest.TestCase):
    def test_the_example(self):
        self.assertEqual(whole_value(P, (0, 1)), -2)
        self.assertEqual(whole_value(P, (5, -3)), 6)
        self.assertEqual(value_at(P, ((5, 1), (-3, 1))), (6, 1))
        self.assertEqual(value_at(P, ((1, 2), (2, 3))), (1, 2))

    def test_nought_and_no_unknowns(self):
        self.assertEqual(whole_value((), ()), 0)
        self.assertEqual(whole_value((), (4, 5)), 0)
        self.assertEqual(value_at((), ((1, 2),)), (0, 1))
        self.assertEqual(value_at((), ()), (0, 1))
        self.assertEqual(whole_value(constant(0, -8), ()), -8)
        self.assertEqual(value_at(constant(0, -8), ()), (-8, 1))

    def test_nought_with_exponent_nought(self):
        p = (((0, 0), 5), ((0, 2), 7), ((3, 0), 9))
        self.assertEqual(whole_value(p, (0, 0)), 5)
        self.assertEqual(whole_value(p, (0, 2)), 33)
        self.assertEqual(whole_value(p, (-1, 0)), -4)
        self.assertEqual(value_at(p, ((0, 1), (0, 1))), (5, 1))
        self.assertEqual(value_at(p, ((0, 1), (1, 2))), (27, 4))
        self.assertEqual(value_at(p, ((-1, 3), (0, 1))), (14, 3))

    def test_in_least_form(self):
        p = (((0,), 1), ((2,), 2))
        self.assertEqual(value_at(p, ((1, 2),)), (3, 2))
        self.assertEqual(value_at(p, ((-3, 2),)), (11, 2))
        self.assertEqual(value_at(poly_by(p, 2), ((1, 2),)), (3, 1))
        self.assertEqual(value_at((((0,), -1), ((1,), 2)), ((1, 2),)), (0, 1))

    def test_worked_out_another_way(self):
        source = random.Random(41)
        for m in (0, 1, 2, 4, 8):
            for _ in range(60):
                p = some_polynomial(source, m, source.choice([1, 6, 20]), 4, 9)
                place = tuple([source.randrange(-4, 5) for _ in range(m)])
                self.assertEqual(whole_value(p, place), Poly(m, p).at(place))
                self.assertIs(type(whole_value(p, place)), int)
                drawn = [Fraction(n, source.randrange(1, 6)) for n in place]
                value = Poly(m, p).at(drawn)
                told = value_at(p, tuple([(x.numerator, x.denominator) for x in drawn]))
                self.assertEqual(told, (value.numerator, value.denominator))
                self.assertIs(type(told), tuple)

    def test_values_of_sums_and_products(self):
        source = random.Random(43)
        for _ in range(40):
            p, q = [some_polynomial(source, 4, 9, 3, 9) for _ in range(2)]
            place = tuple([source.randrange(-4, 5) for _ in range(4)])
            one, other = whole_value(p, place), whole_value(q, place)
            self.assertEqual(whole_value(poly_sum(p, q), place), one + other)
            self.assertEqual(whole_value(poly_less(p, q), place), one - other)
            self.assertEqual(whole_value(poly_times(p, q), place), one * other)
            self.assertEqual(whole_value(poly_power(4, p, 3), place), one ** 3)


class GreatTest(unittest.TestCase):
    def test_many_terms(self):
        source = random.Random(47)
        p = some_polynomial(source, 8, 20000, 200, 10 ** 50)
        self.assertIsNone(check_polynomial(8, p))
        self.assertEqual(poly_less(poly_sum(p, p), p), p)
        self.assertEqual(degrees_of(8, p), (200,) * 8)
        self.assertEqual(whole_value(p, (0,) * 8), 0)
        self.assertEqual(whole_value(p, (1,) * 8), sum([number for _, number in p]))
        self.assertEqual(value_at(p, ((-1, 1),) * 8), (sum([(-1) ** sum(e) * n for e, n in p]), 1))

    def test_products_of_many_terms(self):
        for degrees in ((44, 44), (11, 12, 12)):
            m = len(degrees)
            whole = constant(m, 1)
            for k, degree in enumerate(degrees):
                one = tuple([((0,) * k + (e,) + (0,) * (m - k - 1), 1) for e in range(degree + 1)])
                whole = poly_times(whole, one)
            product = poly_times(whole, whole)
            self.assertEqual(height_of(product), len(whole) ** 2)
            self.assertEqual(degrees_of(m, product), tuple([2 * degree for degree in degrees]))
            middle = [number for exponents, number in product if exponents == degrees]
            self.assertEqual(middle, [len(whole)])
