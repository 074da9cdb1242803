import random
import unittest

from figureclaims.building import holds, made
from figureclaims.errors import TooGreat
from figureclaims.figures import parameters_of
from figureclaims.reaches import is_within, joined, reach_of, size_of
from figureclaims.settling import settle
from figureclaims.table import point_degrees, terms
from figureclaims.witnesses import all_settled, holds_at, settled, triples_at, witness
from tests.drawn import CLAIMS, PARAMETERS, POINTS, some_figure
from tests.helpers import raised
from tests.test_coordinates import SAID, STEPS, drawn_figure, with_degrees
from tests.test_reaches import T
from tests.test_settling import some_claim, whole

# The meet of a line with itself can never be done; the steps behind it could.
NEVER = T + (("meet", 0, 1, 1, 0), ("free",), ("part", 0, 2, 1, 2))


def by_the_table(figure, numbers):
    """Whole triples as the table of S4.2 tells them, whatever their last numbers are."""
    triples, told = [], list(numbers)
    for word, *rest in figure:
        points = [triples[p] for p in rest[:POINTS[word]]]
        own = [told.pop(0) for _ in range(PARAMETERS.get(word, 0))]
        triples.append(tuple(STEPS[word](*points, *rest[POINTS[word]:], *own)))
    return triples


class WitnessTest(unittest.TestCase):
    def test_the_example(self):
        self.assertEqual(witness(((2, 1, 5), 9)), (10, 10 ** 3, 10 ** 6))
        self.assertEqual(witness(((3, 3), 2048)), (2049, 2049 ** 4))
        self.assertEqual(witness(((4, 4), 256)), (257, 257 ** 5))

    def test_others(self):
        self.assertEqual(witness(((), 1)), ())
        self.assertEqual(witness(((), 10 ** 9)), ())
        self.assertEqual(witness(((7,), 1)), (2,))
        self.assertEqual(witness(((0, 0, 3, 1), 6)), (7, 7, 7, 7 ** 4))
        self.assertEqual(witness(((6, 0, 2), 4)), (5, 5 ** 7, 5 ** 7))
        self.assertIs(type(witness(((1, 1), 1))), tuple)

    def test_just_at_the_size(self):
        reach = ((99, 99), 2 ** 30 - 2)
        self.assertEqual(size_of(reach), 300000)
        self.assertEqual(witness(reach), (2 ** 30 - 1, (2 ** 30 - 1) ** 100))
        self.assertEqual(witness(((), 2 ** 300000 - 2)), ())
        self.assertEqual(witness(((149999,), 2)), (3,))
        self.assertEqual(witness(((1, 74999), 2)), (3, 9))

    def test_above_the_size(self):
        for reach in [((99, 99), 2 ** 30 - 1), ((), 2 ** 300000 - 1), ((150000,), 2), ((10 ** 9,) * 8, 10 ** 6)]:
            self.assertGreater(size_of(reach), 300000)
            self.assertIs(type(raised(witness, reach)), TooGreat)


class TriplesAtTest(unittest.TestCase):
    def test_the_example(self):
        a = 2049
        b = a ** 4
        triples = triples_at(T, (a, b))
        self.assertEqual(triples, by_the_table(T, (a, b)))
        self.assertEqual(triples[2:4], [(a, b, 1), (a, -b, 1)])
        self.assertEqual(triples[4][1], 0)
        self.assertEqual(triples[4][0], a * triples[4][2])
        self.assertEqual([type(triples), type(triples[0])], [list, tuple])

    def test_each_word(self):
        source = random.Random(181)
        for word in POINTS:
            for _ in range(10):
                figure = drawn_figure(source, word)
                numbers = [source.randrange(-10 ** 9, 10 ** 9) for _ in range(parameters_of(figure))]
                expected = by_the_table(figure, numbers)
                if all([triple[2] != 0 for triple in expected]):
                    self.assertEqual(triples_at(figure, tuple(numbers)), expected, figure)

    def test_nothing_is_divided_out(self):
        figure = (("at", 0, 0), ("at", 6, 0), ("part", 0, 1, 2, 4), ("part", 0, 2, 1, 1))
        self.assertEqual(triples_at(figure, ()), [(0, 0, 1), (6, 0, 1), (12, 0, 4), (12, 0, 4)])

    def test_ahead_of_the_first_one_that_ends_with_0(self):
        self.assertEqual(len(triples_at(T, (3, 0))), 4)
        self.assertEqual(triples_at(T, (3, 0)), by_the_table(T, (3, 0))[:4])
        for numbers in [(3, 2, 1, 1), (3, 0, 7, 7), (0, 0, 0, 0)]:
            triples = triples_at(NEVER, numbers)
            self.assertEqual(triples, by_the_table(T, numbers[:2])[:len(triples)])
            self.assertEqual(len(triples), 4 if numbers[1] == 0 else 5)
        self.assertEqual(triples_at((("at", 1, 2), ("foot", 0, 0, 0), ("at", 3, 4)), ()), [(1, 2, 1)])

    def test_they_tell_whether_it_is_built(self):
        source = random.Random(191)
        broken = 0
        for _ in range(300):
            figure = some_figure(source, source.randrange(3, 8))
            numbers = tuple([source.randrange(-2, 3) for _ in range(parameters_of(figure))])
            triples = triples_at(figure, numbers)
            self.assertEqual(len(triples), len(made(figure, whole(*numbers))))
            broken += len(triples) < len(figure)
        self.assertGreater(broken, 60)

    def test_great_numbers(self):
        source = random.Random(193)
        numbers = tuple([source.getrandbits(400000) for _ in range(4)])
        figure = (("free",), ("free",), ("at", 3, 4), ("foot", 2, 0, 1), ("middle", 0, 1, 2))
        triples = triples_at(figure, numbers)
        self.assertEqual(triples, by_the_table(figure, numbers))
        self.assertTrue(holds_at(triples, ("line", 0, 1, 3)))
        self.assertTrue(holds_at(triples, ("upright", 2, 3, 0, 1)))
        self.assertFalse(holds_at(triples, ("upright", 2, 3, 0, 2)))


class HoldsAtTest(unittest.TestCase):
    def test_each_word(self):
        source = random.Random(197)
        seen = {}
        for _ in range(1500):
            figure = some_figure(source, source.randrange(3, 7))
            numbers = tuple([source.randrange(-2, 3) for _ in range(parameters_of(figure))])
            triples = triples_at(figure, numbers)
            word = source.choice(list(CLAIMS))
            claim = (word,) + tuple([source.randrange(len(triples)) for _ in range(CLAIMS[word][0])])
            said = SAID[word](*[triples[p] for p in claim[1:]])
            whether = holds_at(triples, claim)
            self.assertIs(whether, not any(said), (figure, numbers, claim))
            self.assertIs(whether, holds(made(figure, whole(*numbers)), claim))
            self.assertIs(holds_at(tuple(triples), claim), whether)
            seen[word, whether] = True
        self.assertEqual(len(seen), 2 * len(CLAIMS))

    def test_what_is_nearly_so(self):
        # Multiples of the numbers by which one could look whether something is 0.
        for number in (2 ** 31 - 1, 2 ** 61 - 1, 2 ** 64, 2 ** 89 - 1, 2 ** 127 - 1):
            triples = [(0, 0, 1), (number, 0, 1), (0, number, 1), (number * number, 1, 1)]
            self.assertFalse(holds_at(triples, ("same", 0, 1)))
            self.assertFalse(holds_at(triples, ("line", 0, 1, 2)))
            self.assertFalse(holds_at(triples, ("circle", 0, 1, 2, 3)))
            self.assertFalse(holds_at(triples, ("upright", 0, 1, 0, 3)))
            self.assertTrue(holds_at(triples, ("upright", 0, 1, 0, 2)))
            self.assertTrue(holds_at(triples, ("long", 0, 1, 0, 2)))

    def test_fewer_triples_than_points(self):
        triples = triples_at(NEVER, (3, 2, 1, 1))
        self.assertTrue(holds_at(triples, ("upright", 2, 4, 0, 1)))
        self.assertFalse(holds_at(triples, ("same", 2, 4)))


class SettledTest(unittest.TestCase):
    def test_the_example(self):
        upright, long = ("upright", 2, 4, 0, 1), ("long", 0, 2, 1, 2)
        self.assertEqual(reach_of(T, (upright,)), ((3, 3), 2048))
        self.assertTrue(holds_at(triples_at(T, (2049, 2049 ** 4)), upright))
        self.assertEqual(settled(T, upright), ("always",))
        self.assertEqual(settled(T, long), ("not", whole(257, 257 ** 5)))
        self.assertEqual(all_settled(T, (long, upright)), [1])

    def test_never(self):
        # Ahead of a claim that would hold of the points before.
        self.assertEqual(settled(NEVER, ("upright", 2, 4, 0, 1)), ("never", 5))
        self.assertEqual(settled(NEVER, ("same", 0, 0)), ("never", 5))
        self.assertEqual(settled(NEVER, ("same", 0, 1)), ("never", 5))
        self.assertEqual(settled(NEVER, ("same", 6, 7)), ("never", 5))
        self.assertIsNone(all_settled(NEVER, (("same", 0, 0),)))
        self.assertIsNone(all_settled(NEVER, ()))

    def test_without_parameters(self):
        figure = (("at", 0, 0), ("at", 4, 0), ("part", 0, 1, 1, 2))
        self.assertEqual(settled(figure, ("line", 0, 1, 2)), ("always",))
        self.assertEqual(settled(figure, ("same", 0, 2)), ("not", ()))
        self.assertEqual(settled(figure + (("middle", 0, 1, 2),), ("same", 0, 2)), ("never", 3))
        self.assertEqual(all_settled((), ()), [])

    def test_several_claims(self):
        claims = (("long", 0, 2, 1, 2), ("line", 0, 1, 4), ("line", 0, 1, 4), ("same", 0, 1), ("long", 2, 4, 3, 4))
        self.assertEqual(all_settled(T, claims), [1, 2, 4])
        self.assertEqual(all_settled(T, list(claims)), [1, 2, 4])
        self.assertEqual(all_settled(T, ()), [])
        self.assertEqual(all_settled(T, claims[:1]), [])
        self.assertIs(type(all_settled(T, claims)), list)

    def test_as_the_polynomials_tell(self):
        source = random.Random(199)
        seen = {}
        while len(seen) < 3 or min(seen.values()) < 40:
            figure = some_figure(source, source.randrange(3, 7))
            claims = tuple([some_claim(source, figure) for _ in range(3)])
            if size_of(reach_of(figure, claims)) > 300000:
                continue
            answers = [settle(figure, claim) for claim in claims]
            for claim, answer in zip(claims, answers):
                told = settled(figure, claim)
                self.assertEqual(told[0], answer[0], (figure, claim))
                if told[0] == "never":
                    self.assertEqual(told, answer)
                if told[0] == "not":
                    numbers = witness(reach_of(figure, (claim,)))
                    self.assertEqual(told, ("not", whole(*numbers)))
                    self.assertFalse(holds(made(figure, told[1]), claim))
                seen[told[0]] = seen.get(told[0], 0) + 1
            hold = [k for k, answer in enumerate(answers) if answer == ("always",)]
            expected = None if answers[0][0] == "never" else hold
            self.assertEqual(all_settled(figure, claims), expected)

    def test_any_reach_that_it_is_within(self):
        source = random.Random(211)
        for _ in range(60):
            figure = some_figure(source, 5)
            claim = some_claim(source, figure)
            reach = reach_of(figure, (claim,))
            degree = tuple([source.randrange(4) for _ in reach[0]])
            wider = joined(reach, (degree, reach[1] + source.randrange(100)))
            self.assertTrue(is_within(reach, wider))
            if size_of(wider) > 300000:
                continue
            triples = triples_at(figure, witness(wider))
            answer = settled(figure, claim)
            if len(triples) < len(figure):
                self.assertEqual(answer, ("never", len(triples)))
            else:
                self.assertEqual(answer == ("always",), holds_at(triples, claim))


class LimitsTest(unittest.TestCase):
    def is_too_great(self, call, *told):
        self.assertIs(type(raised(call, *told)), TooGreat)

    def test_ahead_of_all_else(self):
        figure = (("at", 0, 0), ("foot", 0, 0, 0)) + (("free",),) * 3
        self.assertEqual(settled(figure, ("same", 0, 0)), ("never", 1))
        figure = figure + tuple([("inverse", n - 1, n - 2, n - 3) for n in range(5, 9)])
        self.is_too_great(settled, figure, ("same", 0, 0))
        self.is_too_great(all_settled, figure, ())

    def test_one_claim_alone_but_not_all(self):
        figure = with_degrees(15, 12)
        last = len(figure) - 1
        one, other = ("same", last, 0), ("circle", last, 0, 1, last)
        self.assertEqual(settled(figure, one)[0], "not")
        self.assertLessEqual(size_of(reach_of(figure, (one,))), 300000)
        self.assertGreater(size_of(reach_of(figure, (one, other))), 300000)
        self.assertEqual(all_settled(figure, (one,)), [])
        self.is_too_great(all_settled, figure, (one, other))
        self.is_too_great(settled, figure, other)

    def test_terms_of_the_table_do_not_count(self):
        # More than 20,000 terms, but a reach that is not too great.
        figure = (("at", 0, 0),) + (("free",),) * 7
        figure = figure + (("shift", 1, 2, 3), ("shift", 4, 5, 6), ("on", 0, 7), ("shift", 8, 9, 10))
        claim = ("same", 1, 0)
        self.assertEqual(terms(point_degrees(figure)[11]), 2 ** 15)
        self.assertEqual(size_of(reach_of(figure, (claim,))), 7 * 2 ** 15)
        self.assertEqual(settled(figure, claim)[0], "not")
        self.assertEqual(settled(figure, ("same", 0, 0)), ("always",))

    def test_near_the_size(self):
        source = random.Random(223)
        figure = (("at", 999983, 5), ("at", -31, 999979), ("free",), ("on", 0, 2), ("mirror", 1, 2, 0))
        figure = figure + (("foot", 1, 2, 0), ("part", 1, 5, 2, 1), ("part", 4, 0, 1, 3), ("shift", 0, 2, 1))
        claims = tuple([some_claim(source, figure) for _ in range(200)]) + (("same", 4, 6), ("upright", 1, 5, 0, 2))
        near = [claim for claim in claims if size_of(reach_of(figure, (claim,))) <= 300000]
        self.assertGreater(max([size_of(reach_of(figure, (claim,))) for claim in near]), 100000)
        for claim in near:
            self.assertEqual(settled(figure, claim)[0], settle(figure, claim)[0])
        self.assertEqual(settled(figure, ("same", 4, 6)), ("always",))
        self.assertEqual(settled(figure, ("upright", 1, 5, 0, 2)), ("always",))
