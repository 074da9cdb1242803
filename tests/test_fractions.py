import random
import unittest
from fractions import Fraction

from figureclaims.fractions import fraction, less, minus, over, plus, times


def pair(value):
    value = Fraction(value)
    return value.numerator, value.denominator


def some_values():
    source = random.Random(17)
    values = [Fraction(0), Fraction(1), Fraction(-1), Fraction(1, 2), Fraction(-1, 2), Fraction(7, 3)]
    for digits in [1, 2, 30, 31]:
        for _ in range(6):
            above = source.randrange(-10 ** digits, 10 ** digits)
            values.append(Fraction(above, source.randrange(1, 10 ** digits)))
    return values


class FractionsTest(unittest.TestCase):
    def test_least_form(self):
        for a, b, told in [
            (2, 4, (1, 2)), (-2, 4, (-1, 2)), (2, -4, (-1, 2)), (-2, -4, (1, 2)), (0, 5, (0, 1)),
            (0, -5, (0, 1)), (6, 3, (2, 1)), (6, -3, (-2, 1)), (1, 1, (1, 1)), (3, 7, (3, 7)),
            (7, -1, (-7, 1)), (10 ** 30, 10 ** 29, (10, 1)), (-10 ** 29, 10 ** 30, (-1, 10)),
        ]:
            self.assertEqual(fraction(a, b), told)
            self.assertIs(type(fraction(a, b)), tuple)

    def test_sums_and_so_on(self):
        for x in some_values():
            for y in some_values():
                self.assertEqual(plus(pair(x), pair(y)), pair(x + y))
                self.assertEqual(minus(pair(x), pair(y)), pair(x - y))
                self.assertEqual(times(pair(x), pair(y)), pair(x * y))
                self.assertIs(less(pair(x), pair(y)), x < y)
                if y != 0:
                    self.assertEqual(over(pair(x), pair(y)), pair(x / y))

    def test_by_hand(self):
        self.assertEqual(plus((1, 6), (1, 3)), (1, 2))
        self.assertEqual(plus((1, 2), (-1, 2)), (0, 1))
        self.assertEqual(minus((1, 3), (1, 2)), (-1, 6))
        self.assertEqual(minus((0, 1), (2, 3)), (-2, 3))
        self.assertEqual(times((2, 3), (-3, 2)), (-1, 1))
        self.assertEqual(times((0, 1), (-3, 2)), (0, 1))
        self.assertEqual(over((1, 2), (-1, 4)), (-2, 1))
        self.assertEqual(over((0, 1), (-3, 4)), (0, 1))
        self.assertIs(less((-1, 2), (-1, 3)), True)
        self.assertIs(less((1, 2), (1, 3)), False)
        self.assertIs(less((1, 2), (1, 2)), False)
        self.assertIs(less((-1, 1), (0, 1)), True)
