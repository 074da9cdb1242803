import random
import unittest
from fractions import Fraction

from figureclaims.polynomials import check_polynomial, constant, degrees_of, poly_by, poly_sum, unknown, whole_value
from figureclaims.quotients import divisor_of
from figureclaims.tables import from_table, packed, strides, table_of, unpacked
from tests.polys import P, grid_of, some_polynomial

HALF = (((1,), 1), ((2,), 1))


class TableTest(unittest.TestCase):
    def test_the_example(self):
        self.assertEqual(from_table((2,), (0, 1, 3)), (2, HALF))
        self.assertEqual(table_of(HALF, (2,)), (0, 2, 6))
        self.assertEqual(table_of(P, (1, 2)), (0, -2, -4, 3, 2, 1))

    def test_no_unknowns(self):
        self.assertEqual(table_of(constant(0, 7), ()), (7,))
        self.assertEqual(table_of((), ()), (0,))
        self.assertEqual(from_table((), (7,)), (1, constant(0, 7)))
        self.assertEqual(from_table((), (-7,)), (1, constant(0, -7)))
        self.assertEqual(from_table((), (0,)), (1, ()))

    def test_limits_of_nought(self):
        self.assertEqual(table_of(P, (0, 0)), (0,))
        self.assertEqual(table_of(P, (0, 3)), (0, -2, -4, -6))
        self.assertEqual(table_of(P, (3, 0)), (0, 3, 6, 9))
        self.assertEqual(from_table((0, 3), (0, -2, -4, -6)), (1, (((0, 1), -2),)))
        self.assertEqual(from_table((3, 0), (0, 3, 6, 9)), (1, (((1, 0), 3),)))
        self.assertEqual(from_table((0, 0), (5,)), (1, constant(2, 5)))

    def test_nought(self):
        self.assertEqual(table_of((), (2, 1)), (0,) * 6)
        self.assertEqual(from_table((2, 1), (0,) * 6), (1, ()))

    def test_degrees_above_the_limits(self):
        p = (((0,), 1), ((50,), -3))
        self.assertEqual(table_of(p, (2,)), (1, -2, 1 - 3 * 2 ** 50))
        # x to the third is the same as this on 0, 1 and 2.
        self.assertEqual(from_table((2,), (0, 1, 8)), (1, (((1,), -2), ((2,), 3))))

    def test_units_above_one(self):
        self.assertEqual(from_table((1,), (0, 5)), (1, (((1,), 5),)))
        self.assertEqual(from_table((3,), (0, 0, 0, 1)), (6, (((1,), 2), ((2,), -3), ((3,), 1))))
        self.assertEqual(from_table((3,), (0, 0, 0, -6)), (1, (((1,), -2), ((2,), 3), ((3,), -1))))
        product = (((1, 1), 1), ((1, 2), 1), ((2, 1), 1), ((2, 2), 1))
        table = tuple([x * (x + 1) // 2 * y * (y + 1) // 2 for x, y in grid_of((2, 2))])
        self.assertEqual(from_table((2, 2), table), (4, product))
        doubled = tuple([2 * number for number in table])
        self.assertEqual(from_table((2, 2), doubled), (2, product))

    def test_there_and_back(self):
        source = random.Random(101)
        for _ in range(200):
            m = source.choice([1, 2, 3, 4])
            limits = tuple([source.randrange(4) for _ in range(m)])
            p = some_polynomial(source, m, 8, 5, source.choice([3, 10 ** 25]))
            table = table_of(p, limits)
            self.assertEqual(table, tuple([whole_value(p, place) for place in grid_of(limits)]))
            self.is_told_by(limits, table)
            if all([degree <= limit for degree, limit in zip(degrees_of(m, p), limits)]):
                self.assertEqual(from_table(limits, table), (1, p))

    def test_any_tables(self):
        source = random.Random(103)
        units = {}
        for _ in range(200):
            limits = tuple([source.randrange(5) for _ in range(source.choice([1, 2, 3]))])
            table = tuple([source.randrange(-4, 5) for _ in grid_of(limits)])
            n = self.is_told_by(limits, table)
            units[n > 1] = True
        self.assertEqual(len(units), 2)

    def is_told_by(self, limits, table):
        n, p = from_table(limits, table)
        m = len(limits)
        self.assertIsNone(check_polynomial(m, p))
        self.assertTrue(all([degree <= limit for degree, limit in zip(degrees_of(m, p), limits)]))
        self.assertEqual(table_of(p, limits), tuple([n * number for number in table]))
        # No lesser number will do.
        self.assertEqual([Fraction(divisor_of(p), n).denominator, n >= 1], [n, True])
        return n

    def test_great_tables(self):
        source = random.Random(107)
        p = some_polynomial(source, 2, 20000, 141, 1000)
        for limits in ((43, 44), (999, 1), (1, 999), (1999, 0)):
            table = table_of(p, limits)
            self.assertEqual(len(table), (limits[0] + 1) * (limits[1] + 1))
            for place in ((0, 0), limits, (limits[0] // 2, limits[1] // 3)):
                self.assertEqual(table[place[0] * (limits[1] + 1) + place[1]], whole_value(p, place))
        wide = some_polynomial(source, 8, 20000, 200, 1000)
        limits = (1, 1, 1, 1, 1, 1, 2, 9)
        table = table_of(wide, limits)
        self.assertEqual(table[-1], whole_value(wide, limits))
        self.is_told_by(limits, tuple([n % 1000 for n in table]))
        table = table_of(poly_sum(poly_by(HALF, 3), constant(1, -4)), (1999,))
        self.assertEqual(from_table((1999,), table), (1, (((0,), -4), ((1,), 3), ((2,), 3))))
        one = tuple([source.randrange(10 ** 6) for _ in range(201)])
        self.is_told_by((200,), one)
        self.is_told_by((43, 44), tuple([source.randrange(10 ** 30) for _ in range(44 * 45)]))


class PackedTest(unittest.TestCase):
    def test_the_example(self):
        self.assertEqual(strides((1, 1)), (1, 2))
        self.assertEqual(packed(P, (1, 1), 7), 266)
        self.assertEqual(unpacked(266, (1, 1), 7), P)
        greatest = (((0, 0), 3), ((0, 1), 3), ((1, 0), 3), ((1, 1), 3))
        self.assertEqual(packed(greatest, (1, 1), 7), 1200)
        self.assertEqual(unpacked(1200, (1, 1), 7), greatest)
        self.assertEqual(unpacked(4, (1, 1), 7), (((0, 0), -3), ((1, 0), 1)))

    def test_strides(self):
        self.assertEqual(strides(()), ())
        self.assertEqual(strides((5,)), (1,))
        self.assertEqual(strides((2, 0, 4, 7)), (1, 3, 3, 15))
        self.assertEqual(strides((0, 0, 1)), (1, 1, 1))
        self.assertIs(type(strides((2, 3))), tuple)

    def test_beyond_the_greatest_and_the_least(self):
        least = (((0, 0), -3), ((0, 1), -3), ((1, 0), -3), ((1, 1), -3))
        self.assertEqual(unpacked(-1200, (1, 1), 7), least)
        self.assertIsNone(unpacked(1201, (1, 1), 7))
        self.assertIsNone(unpacked(-1201, (1, 1), 7))
        self.assertEqual(unpacked(1199, (1, 1), 7)[0], ((0, 0), 2))
        self.assertIsNone(unpacked(2, (), 3))
        self.assertIsNone(unpacked(5, (1,), 3))
        self.assertEqual(unpacked(4, (1,), 3), (((0,), 1), ((1,), 1)))

    def test_nought(self):
        for limits in ((), (3,), (0, 2)):
            self.assertEqual(packed((), limits, 5), 0)
            self.assertEqual(unpacked(0, limits, 5), ())

    def test_no_unknowns_and_limits_of_nought(self):
        self.assertEqual(packed(constant(0, -2), (), 5), -2)
        self.assertEqual(unpacked(-2, (), 5), constant(0, -2))
        self.assertEqual(unpacked(3, (0, 0), 7), constant(2, 3))
        self.assertIsNone(unpacked(4, (0, 0), 7))
        self.assertEqual(unpacked(7, (0, 1), 7), unknown(2, 1))
        self.assertEqual(unpacked(7, (1, 0), 7), unknown(2, 0))
        self.assertEqual(packed(unknown(2, 1), (0, 1), 7), 7)

    def test_numbers_of_any_size(self):
        self.assertEqual(packed((((0, 0), 100), ((0, 1), -50)), (1, 1), 7), 100 - 50 * 49)
        self.assertEqual(packed((((3,), 10 ** 50),), (3,), 3), 27 * 10 ** 50)

    def test_is_the_value_at_powers(self):
        source = random.Random(109)
        for _ in range(200):
            m = source.choice([1, 2, 3, 4])
            limits = tuple([source.randrange(4) for _ in range(m)])
            b = source.choice([3, 5, 7, 101, 10 ** 40 - 1])
            half = (b - 1) // 2
            p = tuple([(e, source.randrange(-half, half + 1)) for e in grid_of(limits) if source.randrange(2)])
            p = tuple([(e, n) for e, n in p if n != 0])
            number = packed(p, limits, b)
            self.assertEqual(number, whole_value(p, tuple([b ** stride for stride in strides(limits)])))
            self.assertEqual(unpacked(number, limits, b), p)

    def test_each_integer(self):
        # Of (2, 0, 1), with 3, there are just these: each is told, and no other one.
        for number in range(-400, 401):
            p = unpacked(number, (2, 0, 1), 3)
            if abs(number) <= 364:
                self.assertIsNone(check_polynomial(3, p))
                self.assertEqual(packed(p, (2, 0, 1), 3), number)
                self.assertTrue(all([n in (-1, 1) for _, n in p]))
            else:
                self.assertIsNone(p)

    def test_great_numbers(self):
        source = random.Random(113)
        b = 10 ** 40 - 1
        p = tuple([((k,), source.randrange(1, b // 2)) for k in range(500)])
        self.assertEqual(unpacked(packed(p, (499,), b), (499,), b), p)
        self.assertIsNone(unpacked(10 ** 29999, (499,), b))
        self.assertIsNone(unpacked(-10 ** 29999, (499,), 3))
        q = some_polynomial(source, 8, 100, 1, b // 200)
        self.assertEqual(unpacked(packed(q, (1,) * 8, b), (1,) * 8, b), q)
