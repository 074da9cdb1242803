import random
import unittest

from figureclaims.building import built, made
from figureclaims.errors import TooGreat
from figureclaims.figures import check_figure, parameters_of
from figureclaims.settling import always, settle
from figureclaims.shortening import shortened, twins
from figureclaims.table import point_degrees, terms
from tests.drawn import PARAMETERS, some_figure
from tests.helpers import raised
from tests.test_coordinates import with_degrees
from tests.test_settling import some_claim, whole
from tests.test_twofigures import NEVER, ONE

EXAMPLE = (("at", 0, 0), ("at", 4, 0), ("on", 0, 0), ("part", 2, 1, 1, 2), ("part", 1, 0, 1, 2))


def some_doubled_figure(source, most):
    """A figure many points of which stand at places of others."""
    figure = list(some_figure(source, 4))
    while len(figure) < most:
        a, b, c = [source.randrange(len(figure)) for _ in range(3)]
        figure.append(source.choice([
            ("part", a, b, 0, 1), ("part", a, b, 1, 1), ("on", a, a), ("shift", a, b, a), ("shift", a, a, c),
            ("mirror", a, b, c), ("part", a, b, 1, 2), ("part", b, a, 1, 2), ("round", a, a), ("foot", a, b, c),
        ]))
    return tuple(figure)


def doubled_figures(source, many):
    found = []
    while len(found) < many:
        figure = some_doubled_figure(source, source.randrange(4, 9))
        if parameters_of(figure) <= 4 and max([terms(degree) for degree in point_degrees(figure)]) <= 300:
            found.append(figure)
    return found


class TwinsTest(unittest.TestCase):
    def test_the_example(self):
        self.assertEqual(twins(EXAMPLE), (0, 1, 0, 3, 3))

    def test_by_hand(self):
        self.assertEqual(twins(ONE), (0, 1, 2, 3, 4))
        self.assertEqual(twins(ONE + (("part", 4, 2, 1, 2), ("mirror", 4, 1, 0), ("at", 0, 0))), (0, 1, 2, 3, 4, 3, 2, 0))
        self.assertEqual(twins((("free",), ("free",))), (0, 1))
        self.assertEqual(twins(()), ())
        # Without parameters.
        self.assertEqual(twins((("at", 2, 0), ("at", 1, 0), ("part", 0, 1, 2, 1), ("at", 0, 0), ("at", 2, 0))), (0, 1, 2, 2, 0))

    def test_never(self):
        self.assertIsNone(twins(NEVER))
        self.assertIsNone(shortened(NEVER))
        self.assertIsNone(twins((("at", 0, 0), ("at", 0, 0), ("foot", 0, 0, 1))))

    def test_as_claims_are_settled(self):
        source = random.Random(359)
        doubled = 0
        for figure in doubled_figures(source, 120):
            told = twins(figure)
            if told is None:
                self.assertEqual(settle(figure, ("same", 0, 0))[0], "never")
                continue
            expected = tuple([
                [j for j in range(k + 1) if settle(figure, ("same", j, k)) == ("always",)][0]
                for k in range(len(figure))
            ])
            self.assertEqual(told, expected, figure)
            self.assertIs(type(told), tuple)
            doubled += sum([twin < k for k, twin in enumerate(told)])
        self.assertGreater(doubled, 50)


class ShortenedTest(unittest.TestCase):
    def test_the_example(self):
        self.assertEqual(shortened(EXAMPLE), (
            (("at", 0, 0), ("at", 4, 0), ("on", 0, 0), ("part", 0, 1, 1, 2)), (0, 1, 0, 3, 3),
        ))

    def test_by_hand(self):
        self.assertEqual(shortened(()), ((), ()))
        self.assertEqual(shortened(ONE), (ONE, (0, 1, 2, 3, 4)))
        figure = ONE[:3] + (("at", 0, 0), ("foot", 2, 3, 1), ("foot", 2, 1, 3), ("part", 2, 5, 2, 1), ("meet", 5, 3, 6, 2))
        self.assertIsNone(raised(check_figure, figure))
        self.assertEqual(shortened(figure), (ONE[:4] + (("part", 2, 3, 2, 1),), (0, 1, 2, 0, 3, 3, 4, 3)))
        # A later point that is made of points whose numbers become others.
        figure = (("at", 0, 0), ("at", 0, 0), ("free",), ("at", 0, 0), ("part", 3, 2, 1, 3), ("round", 1, 4))
        self.assertEqual(shortened(figure), (
            (("at", 0, 0), ("free",), ("part", 0, 1, 1, 3), ("round", 0, 2)), (0, 0, 1, 0, 2, 3),
        ))

    def test_steps_with_parameters_stay(self):
        figure = (("at", 5, 5), ("on", 0, 0), ("round", 1, 0), ("on", 2, 1), ("part", 3, 2, 1, 2), ("quarter", 1, 2))
        self.assertEqual(shortened(figure), (
            (("at", 5, 5), ("on", 0, 0), ("round", 0, 0), ("on", 0, 0)), (0, 0, 0, 0, 0, 0),
        ))
        # The first twin of a point has a parameter and a place of its own.
        figure = (("at", 0, 0), ("at", 4, 0), ("on", 0, 1), ("part", 2, 2, 1, 2), ("round", 3, 3), ("part", 4, 1, 1, 2))
        self.assertEqual(shortened(figure), (
            (("at", 0, 0), ("at", 4, 0), ("on", 0, 1), ("round", 2, 2), ("part", 2, 1, 1, 2)), (0, 1, 2, 2, 2, 4),
        ))

    def test_what_holds(self):
        source = random.Random(367)
        shorter = held = 0
        for figure in doubled_figures(source, 100):
            told = shortened(figure)
            if told is None:
                continue
            other, places = told
            self.assertIsNone(raised(check_figure, other))
            self.assertEqual(parameters_of(other), parameters_of(figure))
            self.assertEqual([type(told), type(other), type(places), len(places)], [tuple, tuple, tuple, len(figure)])
            shorter += len(other) < len(figure)
            for _ in range(10):
                position = whole(*[source.randrange(-5, 6) for _ in range(parameters_of(figure))])
                drawn = made(figure, position)
                if len(drawn) == len(figure):
                    points = built(other, position)
                    self.assertEqual(drawn, [points[k] for k in places])
            claims = [some_claim(source, figure) for _ in range(10)]
            others = [claim[:1] + tuple([places[p] for p in claim[1:]]) for claim in claims]
            if raised(always, figure, claims) is None:
                self.assertEqual(always(figure, claims), always(other, others))
                held += len(always(figure, claims))
            # No two points of it are always at one place, unless the later one's step has a parameter.
            for k, twin in enumerate(twins(other)):
                self.assertTrue(twin == k or PARAMETERS.get(other[k][0], 0) > 0)
        self.assertGreater(min(shorter, held), 30)


class LimitsTest(unittest.TestCase):
    def test_too_great(self):
        # Degrees of a point and of itself, added.
        figure = with_degrees(99, 50)
        self.assertEqual(terms(point_degrees(figure)[-1]), 100 * 51)
        self.assertIs(type(raised(twins, figure)), TooGreat)
        self.assertIs(type(raised(shortened, figure)), TooGreat)
        # Ahead of a step that can never be done.
        self.assertIs(type(raised(twins, (("at", 0, 0), ("foot", 0, 0, 0)) + tuple([
            step[:1] + tuple([p + 2 if step[0] != "at" else p for p in step[1:]]) for step in figure
        ]))), TooGreat)
        figure = with_degrees(99, 49)
        self.assertEqual(len(shortened(figure)[0]), 5)
        self.assertIs(type(raised(twins, with_degrees(199, 101))), TooGreat)
