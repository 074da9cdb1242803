import random
import unittest
from unittest import mock

from figureclaims.certain import (
    PRIMES, first_never, guess_of, holds_always, place_where, place_without, says_nothing, twins_of,
)
from figureclaims.drawings import left_drawing, plain_drawing, shared_drawing
from figureclaims.figures import parameters_of
from figureclaims.polynomials import constant, degrees_of, poly_sum, poly_times, unknown, whole_value
from figureclaims.settling import settle
from tests.drawn import some_figure
from tests.polys import some_polynomial
from tests.test_coordinates import SAID, told, triples_by_the_table
from tests.test_settling import some_claim

P = PRIMES[0]


def roots(m, k, many):
    """The product of the unknown k less 0, less 1 and so on, so many times."""
    p = constant(m, 1)
    for n in range(many):
        p = poly_times(p, poly_sum(unknown(m, k), constant(m, -n)))
    return p


class GuessTest(unittest.TestCase):
    def test_values(self):
        source = random.Random(401)
        for seed in range(6):
            for m in range(4):
                guess = guess_of(seed, m)
                self.assertEqual(len(guess.numbers), m)
                p = some_polynomial(source, m, 8, 9, 10 ** 30)
                value = whole_value(p, guess.numbers) % guess.prime
                self.assertIn(guess.value(p), (value, -value % guess.prime))

    def test_primes(self):
        # That -1 is no square by them: so 1 + t t, and the square of what is not 0, is not 0.
        for prime in PRIMES:
            self.assertEqual(prime % 4, 3)
            self.assertEqual(pow(3, prime - 1, prime), 1)
            self.assertEqual(pow(7, prime - 1, prime), 1)
        self.assertEqual(len(set(PRIMES)), len(PRIMES))
        self.assertEqual([guess_of(seed, 0).prime for seed in range(5)], list(PRIMES) + [P])

    def test_triples(self):
        source = random.Random(409)
        for _ in range(60):
            figure = some_figure(source, 6)
            m = parameters_of(figure)
            guess = guess_of(source.randrange(9), m)
            triples = guess.triples(plain_drawing(figure))
            for triple, polys in zip(triples, triples_by_the_table(figure)):
                expected = [whole_value(p, guess.numbers) % guess.prime for p in told(polys)]
                self.assertEqual(triple, expected)


class NothingTest(unittest.TestCase):
    def says(self, m, word, points, whether):
        """By itself, and with numbers put in for each unknown, and for none."""
        self.assertIs(says_nothing(m, word, points), whether)
        for always in (True, False):
            with mock.patch("figureclaims.certain._is_sooner_put_in", return_value=always):
                self.assertIs(says_nothing(m, word, points), whether)

    def test_as_the_polynomials_tell(self):
        source = random.Random(419)
        seen = {}
        for _ in range(200):
            figure = some_figure(source, 5)
            claim = some_claim(source, figure)
            points = [triples_by_the_table(figure)[p] for p in claim[1:]]
            nothing = told(SAID[claim[0]](*points)) == ((),) * len(SAID[claim[0]](*points))
            self.says(parameters_of(figure), claim[0], [told(triple) for triple in points], nothing)
            seen[nothing] = True
        self.assertEqual(len(seen), 2)

    def test_polynomials_that_are_0_at_many_numbers(self):
        # If numbers are put in, all but the last one leave nothing.
        for m, k, many in [(1, 0, 30), (2, 0, 12), (2, 1, 12), (3, 0, 7), (3, 2, 7), (1, 0, 1), (2, 1, 1)]:
            p = poly_times(roots(m, k, many), roots(m, (k + 1) % m, 3)) if m > 1 else roots(m, k, many)
            one = constant(m, 1)
            a, b = (p, one, one), ((), one, one)
            # The same place by other triples.
            twice = tuple([poly_times(q, poly_sum(unknown(m, 0), constant(m, 7))) for q in a])
            more = (poly_sum(twice[0], one), twice[1], twice[2])
            self.says(m, "same", [a, b], False)
            self.says(m, "same", [a, a], True)
            self.says(m, "line", [a, b, b], True)
            self.says(m, "same", [a, twice], True)
            self.says(m, "same", [a, more], False)

    def test_each_unknown_is_put_in(self):
        source = random.Random(421)
        for m in (2, 3):
            for _ in range(6):
                p, q, w = [poly_sum(some_polynomial(source, m, 9, 4, 10 ** 30), constant(m, 1)) for _ in range(3)]
                by = poly_sum(some_polynomial(source, m, 6, 2, 10 ** 20), constant(m, 1))
                a, b = (p, q, w), tuple([poly_times(part, by) for part in (p, q, w)])
                self.says(m, "same", [a, b], True)
                k = source.randrange(3)
                exponents = tuple([source.randrange(5) for _ in range(m)])
                b = b[:k] + (poly_sum(b[k], ((exponents, 1),)),) + b[k + 1:]
                self.says(m, "same", [a, b], False)


class MultiplesOfPrimesTest(unittest.TestCase):
    """Figures whose numbers are multiples of the primes: what is left of them is 0, but they are not nought."""

    def test_steps(self):
        for prime in PRIMES + (P * PRIMES[1],):
            base = (("at", 0, 0), ("at", prime, 0), ("at", 0, 1), ("at", prime, prime), ("free",))
            for step in [
                ("meet", 0, 1, 2, 3), ("meet", 0, 1, 0, 3), ("foot", 4, 0, 1), ("mirror", 4, 3, 1), ("middle", 0, 1, 2),
                ("other", 0, 1, 4), ("second", 4, 3, 0), ("inverse", 1, 0, 4), ("part", 0, 4, 1, prime), ("part", 0, 4, prime, 3),
            ]:
                figure = base + (step, ("part", 5, 0, 1, 2))
                self.assertIsNone(first_never(plain_drawing(figure)), step)
                self.assertEqual(settle(figure, ("same", 5, 4))[0], "not", step)
                self.assertEqual(settle(figure, ("line", 5, 6, 0)), ("always",))
                never = figure + (("foot", 0, 5, 5),)
                self.assertEqual(first_never(plain_drawing(never)), 7)

    def test_each_hindrance(self):
        base = (("at", 0, 0), ("at", 1, 0), ("at", 5, 7), ("at", 3, 0))
        for step, hindered in [
            (("meet", 0, 1, 3, 0), True), (("meet", 0, 1, 2, 3), False), (("middle", 0, 1, 3), True),
            (("middle", 0, 1, 2), False), (("foot", 0, 1, 1), True), (("foot", 0, 0, 1), False), (("foot", 1, 0, 1), False),
            (("mirror", 0, 2, 2), True), (("mirror", 2, 2, 1), False), (("second", 0, 2, 2), True),
            (("second", 2, 2, 0), False), (("other", 2, 2, 0), True), (("other", 2, 0, 0), False), (("other", 2, 0, 2), False),
            (("inverse", 2, 2, 0), True), (("inverse", 0, 2, 2), False), (("inverse", 2, 0, 2), False),
        ]:
            self.assertEqual(first_never(plain_drawing(base + (step,))), 4 if hindered else None, step)

    def test_claims_and_places(self):
        for prime in PRIMES:
            figure = (("at", 0, 0), ("at", prime, 0), ("free",), ("at", 0, prime))
            drawing = plain_drawing(figure)
            self.assertIs(holds_always(drawing, ("same", 0, 1)), False)
            self.assertIs(holds_always(drawing, ("line", 0, 1, 2)), False)
            self.assertIs(holds_always(drawing, ("long", 0, 1, 0, 3)), True)
            self.assertEqual(twins_of(drawing), [0, 1, 2, 3])
            self.assertEqual(place_without(drawing, [("same", 0, 1), ("same", 2, 0), ("same", 2, 1)]), (0, 1))


class PlacesTest(unittest.TestCase):
    def test_the_least_numbers(self):
        source = random.Random(431)
        for _ in range(40):
            m = source.randrange(1, 4)
            p = poly_times(roots(m, 0, source.randrange(4)), some_polynomial(source, m, 4, 3, 5))
            if not p:
                continue
            drawing = plain_drawing((("at", 0, 0), ("at", 1, 0)) + (("on", 0, 1),) * m)
            place = place_where(drawing, lambda guess, triples: guess.value(p) != 0)
            self.assertNotEqual(whole_value(p, place), 0)
            self.assertTrue(all([n <= degree for n, degree in zip(place, degrees_of(m, p))]))
            self.assertIs(type(place), tuple)

    def test_steps_count(self):
        figure = (("at", 0, 0), ("at", 1, 0), ("on", 0, 1), ("at", 5, 5), ("foot", 3, 0, 2), ("foot", 3, 2, 1))
        self.assertEqual(place_where(plain_drawing(figure), lambda guess, triples: True), (2,))
        self.assertEqual(place_without(plain_drawing(figure), [("same", 4, 2)]), (2,))
        drawing = left_drawing(figure + (("free",),), (None, (1, 3), None))
        self.assertEqual(place_where(drawing, lambda guess, triples: True), (2, 0))
        shared = shared_drawing(figure[:3], figure[:3] + (("foot", 0, 2, 1),))
        self.assertEqual(place_where(shared, lambda guess, triples: True), (0,))
        self.assertEqual(place_without(shared, [("same", 2, 3)]), (2,))
