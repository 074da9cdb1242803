import random
import unittest

from figureclaims.polynomials import (
    check_polynomial, constant, degrees_of, poly_by, poly_less, poly_power, poly_sum, poly_times, unknown,
)
from figureclaims.quotients import divisor_of, judge_rest, least_form, quotient, rest_paper
from tests.helpers import OTHER_KINDS, nested
from tests.polys import P, some_polynomial

ONE_AND_Y = (((0, 0), 1), ((0, 1), 1))


class LeastFormTest(unittest.TestCase):
    def test_divisors(self):
        self.assertEqual(divisor_of(()), 0)
        self.assertEqual(divisor_of(P), 1)
        self.assertEqual(divisor_of(poly_by(P, -12)), 12)
        self.assertEqual(divisor_of(constant(3, -7)), 7)
        self.assertEqual(divisor_of((((0,), 12), ((1,), -18), ((5,), 30))), 6)

    def test_least_forms(self):
        self.assertEqual(least_form(()), ())
        self.assertEqual(least_form(P), P)
        self.assertEqual(least_form(poly_by(P, -12)), P)
        self.assertEqual(least_form(poly_by(P, 12)), P)
        self.assertEqual(least_form(constant(3, -7)), constant(3, 1))
        self.assertEqual(least_form((((0,), 12), ((1,), -18))), (((0,), -2), ((1,), 3)))


class DivisionTest(unittest.TestCase):
    def is_multiple(self, p, q, r):
        self.assertEqual(quotient(p, q), r)
        self.assertIsNone(rest_paper(p, q))

    def is_none(self, m, p, q):
        """Check that p is no multiple of q, by a rest paper that is multiplied out."""
        self.assertIsNone(quotient(p, q))
        paper = rest_paper(p, q)
        self.assertEqual(type(paper), tuple)
        s, rest = paper
        for part in paper:
            self.assertIsNone(check_polynomial(m, part))
        self.assertEqual(poly_sum(poly_times(q, s), rest), p)
        self.assertTrue(rest)
        (exponents, number), (others, by) = rest[-1], q[-1]
        self.assertTrue(number % by != 0 or any([e < f for e, f in zip(exponents, others)]))
        self.assertIsNone(judge_rest(m, p, q, paper))

    def test_the_example(self):
        self.is_none(2, P, ONE_AND_Y)
        s, rest = (((1, 0), 1),), (((0, 1), -2), ((1, 0), 2))
        self.assertIsNone(judge_rest(2, P, ONE_AND_Y, (s, rest)))
        self.assertEqual(rest_paper(P, ONE_AND_Y), (s, rest))

    def test_multiples(self):
        x, y = unknown(2, 0), unknown(2, 1)
        self.is_multiple(poly_times(P, P), P, P)
        self.is_multiple((), P, ())
        self.is_multiple(P, constant(2, -1), poly_by(P, -1))
        self.is_multiple(poly_by(P, 6), constant(2, 3), poly_by(P, 2))
        self.is_multiple(P, P, constant(2, 1))
        self.is_multiple(poly_less(poly_times(x, x), poly_times(y, y)), poly_sum(x, y), poly_less(x, y))
        self.is_multiple(constant(0, 12), constant(0, -4), constant(0, -3))
        self.is_multiple((), constant(0, -4), ())
        z, one = unknown(1, 0), constant(1, 1)
        row = tuple([((k,), 1) for k in range(200)])
        self.is_multiple(poly_less(poly_power(1, z, 200), one), poly_less(z, one), row)

    def test_no_multiples_by_exponents(self):
        x, y = unknown(2, 0), unknown(2, 1)
        self.is_none(2, x, y)
        self.is_none(2, y, x)
        self.is_none(2, constant(2, 5), x)
        self.is_none(2, P, poly_times(P, P))
        self.is_none(2, poly_sum(poly_times(P, x), constant(2, 1)), P)
        self.is_none(2, poly_times(x, x), poly_sum(x, y))
        # What is left has greater exponents than what it comes of.
        self.is_none(2, poly_times(x, poly_times(x, x)), poly_less(x, poly_times(y, y)))

    def test_no_multiples_by_numbers_alone(self):
        self.is_none(2, P, constant(2, 2))
        self.is_none(2, P, poly_by(P, 2))
        self.is_none(2, P, poly_by(P, -2))
        self.is_none(1, (((0,), 3), ((1,), 4)), (((0,), 1), ((1,), 2)))
        self.is_none(0, constant(0, 7), constant(0, 2))
        self.is_none(0, constant(0, -7), constant(0, 14))
        # The last term of what is left is no multiple, but what comes before it is.
        self.is_none(1, (((0,), 4), ((1,), 3)), constant(1, 2))
        self.is_none(1, (((0,), 3), ((1,), 4)), constant(1, 2))

    def test_what_is_nought_at_one_place(self):
        for n in (0, 1, 2, 999, 1000, 1001, 1002):
            q = poly_less(unknown(1, 0), constant(1, n))
            p = poly_sum(unknown(1, 0), constant(1, 3))
            self.is_multiple(poly_times(p, q), q, p)
            self.is_none(1, p, q)
            self.is_none(1, q, p)
            self.is_none(1, poly_times(p, p), poly_times(p, q))
        q = poly_sum(poly_less(unknown(2, 0), unknown(2, 1)), constant(2, 1))
        self.is_multiple(poly_times(P, q), q, P)
        self.is_none(2, P, q)

    def test_products_by_each_factor(self):
        source = random.Random(83)
        for m in (0, 1, 2, 4, 8):
            for _ in range(40):
                p, q = [some_polynomial(source, m, source.choice([1, 2, 6, 20]), 4, 30) for _ in range(2)]
                if p and q:
                    self.is_multiple(poly_times(p, q), q, p)
                    self.is_multiple(poly_times(p, q), p, q)

    def test_just_one_of_both(self):
        source = random.Random(89)
        seen = []
        for _ in range(500):
            m = source.choice([1, 2, 3])
            p, q = [some_polynomial(source, m, 4, 2, 4) for _ in range(2)]
            if not q:
                continue
            if source.randrange(2):
                p = poly_times(p, q)
                if source.randrange(2):
                    k = source.randrange(len(p)) if p else 0
                    p = p[:k] + p[k + 1:]
            r = quotient(p, q)
            seen.append(r is None)
            if r is None:
                self.is_none(m, p, q)
            else:
                self.is_multiple(p, q, r)
                self.assertEqual(poly_times(q, r), p)
        self.assertGreater(seen.count(True), 100)
        self.assertGreater(seen.count(False), 100)

    def test_many_terms(self):
        source = random.Random(97)
        p, q = [some_polynomial(source, 2, 2000, 44, 100) for _ in range(2)]
        product = poly_times(p, q)
        self.assertEqual(quotient(product, p), q)
        self.is_none(2, poly_sum(product, unknown(2, 1)), p)
        p, q = some_polynomial(source, 8, 2000, 100, 10 ** 30), some_polynomial(source, 8, 10, 100, 10 ** 30)
        self.assertEqual(quotient(poly_times(p, q), p), q)
        self.assertEqual(quotient(poly_times(p, q), q), p)

    def test_steps_that_go_far(self):
        x, y = unknown(2, 0), unknown(2, 1)
        q = poly_less(x, poly_power(2, y, 3))
        p = poly_power(2, x, 40)
        self.is_none(2, p, q)
        self.assertEqual(rest_paper(p, q)[1], poly_power(2, y, 120))
        self.assertEqual(degrees_of(2, rest_paper(p, q)[0]), (39, 117))


class JudgeRestTest(unittest.TestCase):
    s, rest = (((1, 0), 1),), (((0, 1), -2), ((1, 0), 2))

    def finds(self, value, fault, p=P, q=ONE_AND_Y, m=2):
        self.assertEqual(judge_rest(m, p, q, value), fault, value)

    def test_form(self):
        for value in OTHER_KINDS + [(), (self.s,), (self.s, self.rest, ()), [self.s, self.rest], nested(39)]:
            self.finds(value, ("form",))
        for part in OTHER_KINDS + [nested(38), (((0, 0), 0),), (((0,), 1),), (((0, True), 1),), [((0, 0), 1)]]:
            if part != ():
                self.finds((part, self.rest), ("form",))
                self.finds((self.s, part), ("form",))
        self.finds((self.s, self.rest[::-1]), ("form",))
        self.finds((self.s, self.rest), ("form",), constant(3, 1), constant(3, 2), 3)

    def test_sum(self):
        self.finds((self.s, poly_by(self.rest, 2)), ("sum",))
        self.finds(((), self.rest), ("sum",))
        self.finds((self.s, ()), ("sum",))
        self.finds((P, P), ("sum",))
        self.finds(((((10 ** 1999, 5), 10 ** 1999),), self.rest), ("sum",))

    def test_nought(self):
        self.finds((P, ()), ("nought",), poly_times(P, ONE_AND_Y))
        self.finds(((), ()), ("nought",), ())
        self.finds(((), ()), ("sum",), P)

    def test_last(self):
        self.finds(((), P), ("last",))
        self.finds((constant(2, 1), poly_less(P, ONE_AND_Y)), ("last",))
        self.finds(((), (((0, 0), 1), ((0, 3), -6))), ("last",), (((0, 0), 1), ((0, 3), -6)), (((0, 1), 3),))
        self.finds(((), (((0, 0), 1), ((0, 3), -6))), None, (((0, 0), 1), ((0, 3), -6)), (((0, 1), 4),))

    def test_right_ones(self):
        self.finds((self.s, self.rest), None)
        # Not the one that is told, but right as well.
        p, q = (((0,), 3), ((1,), 3)), constant(1, 2)
        for s in ((), constant(1, 1), constant(1, -5), unknown(1, 0)):
            self.finds((s, poly_less(p, poly_times(q, s))), None, p, q, 1)
        self.finds((unknown(1, 1 - 1), (((0,), 3), ((1,), 1))), None, p, q, 1)
        self.finds((poly_power(1, unknown(1, 0), 2), poly_less(p, poly_by(poly_power(1, unknown(1, 0), 2), 2))),
                   ("last",), p, q, 1)
