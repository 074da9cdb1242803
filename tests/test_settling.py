import random
import unittest

from figureclaims.building import built, holds, made
from figureclaims.errors import TooGreat
from figureclaims.figures import check_position, parameters_of
from figureclaims.settling import always, common_position, grid, least_position, settle
from figureclaims.table import claim_degree, point_degrees, terms
from tests.drawn import CLAIMS, some_figure
from tests.helpers import raised
from tests.polys import grid_of

T = (("at", 0, 0), ("at", 1, 0), ("free",), ("foot", 2, 0, 1), ("mirror", 2, 0, 1))

# The meet of a line with itself can never be done.
NEVER = T + (("meet", 0, 1, 1, 3),)


def whole(*numbers):
    return tuple([(n, 1) for n in numbers])


def some_claim(source, figure):
    word = source.choice(list(CLAIMS))
    return (word,) + tuple([source.randrange(len(figure)) for _ in range(CLAIMS[word][0])])


def small_figures(source, many, most):
    """Figures with claims whose grids have at most so many places."""
    found = []
    while len(found) < many:
        figure = some_figure(source, source.randrange(3, 6))
        claims = tuple([some_claim(source, figure) for _ in range(source.randrange(1, 4))])
        if terms(grid(figure, claims)) <= most:
            found.append((figure, claims))
    return found


class GridTest(unittest.TestCase):
    def test_the_example(self):
        self.assertEqual(claim_degree(T, ("line", 2, 3, 4)), (3, 3))
        self.assertEqual(grid(T, (("line", 2, 3, 4),)), (6, 6))
        self.assertEqual(grid(T, ()), (3, 3))

    def test_each_member_counts(self):
        same = ("same", 2, 4)
        self.assertEqual(grid(T, (same,)), (5, 5))
        self.assertEqual(grid(T, (same, same)), (7, 7))
        # One that always holds counts, too.
        self.assertEqual(grid(T, (same, ("line", 2, 3, 4), same)), (10, 10))
        self.assertEqual(grid(T, [same, same]), (7, 7))

    def test_each_parameter_by_itself(self):
        figure = (("free",), ("at", 0, 0), ("round", 1, 0), ("on", 0, 2))
        self.assertEqual(point_degrees(figure), [(1, 1, 0, 0), (0,) * 4, (1, 1, 2, 0), (2, 2, 2, 1)])
        self.assertEqual(grid(figure, ()), (4, 4, 4, 1))
        self.assertEqual(grid(figure, (("same", 2, 3),)), (7, 7, 8, 2))

    def test_without_parameters(self):
        self.assertEqual(grid((), ()), ())
        self.assertEqual(grid((("at", 1, 2), ("at", 3, 4)), (("same", 0, 1),)), ())

    def test_what_is_too_great(self):
        figure = (("free",),) * 3 + tuple([("inverse", n - 1, n - 2, n - 3) for n in range(3, 12)])
        degrees = point_degrees(figure)
        self.assertEqual(grid(figure, ()), tuple([sum([d[k] for d in degrees]) for k in range(6)]))
        self.assertIs(type(raised(settle, figure, ("same", 0, 1))), TooGreat)


class SettleTest(unittest.TestCase):
    def test_the_example(self):
        self.assertEqual(settle(T, ("line", 2, 3, 4)), ("always",))
        self.assertEqual(settle(T, ("long", 2, 3, 3, 4)), ("always",))
        word, position = settle(T, ("same", 2, 4))
        self.assertEqual(word, "not")
        self.assertNotEqual(position[1], (0, 1))
        self.assertEqual(least_position(T, ("same", 2, 4)), whole(0, 1))
        self.assertEqual(least_position(T, ("line", 0, 1, 2)), whole(0, 1))
        self.assertEqual(least_position(T, ("same", 0, 3)), whole(1, 0))
        self.assertEqual(least_position(T, ("same", 0, 1)), whole(0, 0))
        self.assertIsNone(least_position(T, ("line", 2, 3, 4)))

    def test_a_step_that_can_never_be_done(self):
        self.assertEqual(settle(NEVER, ("line", 2, 3, 4)), ("never", 5))
        self.assertEqual(settle(NEVER, ("same", 0, 1)), ("never", 5))
        self.assertEqual(settle(NEVER, ("same", 5, 0)), ("never", 5))
        self.assertEqual(settle(NEVER + (("meet", 0, 0, 1, 1),), ("same", 0, 0)), ("never", 5))
        self.assertIsNone(least_position(NEVER, ("same", 0, 1)))
        self.assertIsNone(common_position(NEVER, ()))
        self.assertIsNone(common_position(NEVER, (("same", 0, 1),)))
        self.assertEqual(settle((("at", 3, 3), ("foot", 0, 0, 0)), ("same", 0, 0)), ("never", 1))

    def test_without_parameters(self):
        figure = (("at", 0, 0), ("at", 4, 0), ("part", 0, 1, 1, 2), ("middle", 0, 1, 2))
        self.assertEqual(settle(figure[:3], ("line", 0, 1, 2)), ("always",))
        self.assertEqual(settle(figure[:3], ("same", 0, 2)), ("not", ()))
        self.assertEqual(settle(figure, ("line", 0, 1, 2)), ("never", 3))
        self.assertEqual(least_position(figure[:3], ("same", 0, 2)), ())
        self.assertEqual(common_position(figure[:3], (("same", 0, 2), ("line", 0, 1, 2))), ())
        self.assertEqual(always(figure[:3], (("same", 0, 2), ("line", 0, 1, 2))), [1])

    def test_without_points(self):
        self.assertEqual(always((), ()), [])
        self.assertEqual(common_position((), ()), ())

    def test_steps_that_can_be_done_here_and_there(self):
        # The point 2 runs on the line of 0 and 1; the line from it to 0 is none at 0.
        figure = (("at", 0, 0), ("at", 1, 0), ("on", 0, 1), ("at", 5, 5), ("foot", 3, 0, 2))
        self.assertEqual(least_position(figure, ("same", 2, 0)), whole(1))
        self.assertEqual(least_position(figure, ("same", 2, 1)), whole(2))
        self.assertEqual(least_position(figure, ("same", 2, 4)), whole(1))
        self.assertIsNone(least_position(figure, ("line", 0, 1, 4)))
        self.assertEqual(common_position(figure, (("same", 2, 1), ("same", 2, 0))), whole(2))

    def test_by_going_through_the_grid(self):
        source = random.Random(157)
        seen = {}
        for figure, claims in small_figures(source, 150, 900):
            claim = claims[0]
            places = [whole(*place) for place in grid_of(grid(figure, (claim,)))]
            drawn = [(position, made(figure, position)) for position in places]
            most = max([len(points) for _, points in drawn])
            fails = [p for p, points in drawn if len(points) == len(figure) and not holds(points, claim)]
            answer = settle(figure, claim)
            if most < len(figure):
                self.assertEqual(answer, ("never", most))
            elif not fails:
                self.assertEqual(answer, ("always",))
            else:
                self.assertEqual(answer[0], "not")
                self.assertIn(answer[1], fails)
            least = fails[0] if fails else None
            self.assertEqual(least_position(figure, claim), least, (figure, claim))
            seen[answer[0]] = seen.get(answer[0], 0) + 1
        self.assertEqual(sorted(seen), ["always", "never", "not"])
        self.assertGreater(min(seen.values()), 15)

    def test_always_and_common_positions(self):
        source = random.Random(163)
        many = 0
        for figure, claims in small_figures(source, 150, 10 ** 9):
            position = common_position(figure, claims)
            answers = [settle(figure, claim) for claim in claims]
            if answers[0][0] == "never":
                self.assertIsNone(position)
                continue
            many += 1
            check_position(figure, position)
            limits = grid(figure, claims)
            self.assertTrue(all([b == 1 and 0 <= a <= g for (a, b), g in zip(position, limits)]))
            points = built(figure, position)
            hold = [k for k, claim in enumerate(claims) if holds(points, claim)]
            self.assertEqual(hold, always(figure, claims))
            self.assertEqual(hold, [k for k, answer in enumerate(answers) if answer == ("always",)])
        self.assertGreater(many, 60)

    def test_many_claims(self):
        claims = (("line", 2, 3, 4), ("same", 2, 4), ("line", 2, 3, 4), ("same", 2, 4), ("upright", 2, 4, 0, 1))
        self.assertEqual(always(T, claims), [0, 2, 4])
        self.assertEqual(always(T, list(claims)), [0, 2, 4])
        self.assertEqual(always(T, ()), [])
        self.assertEqual(always(T, claims[1:2]), [])
        self.assertEqual(common_position(T, ()), whole(0, 0))
        self.assertEqual(len(common_position(T, claims)), 2)
        thirty = tuple([some_claim(random.Random(k), T) for k in range(30)])
        hold = [k for k, claim in enumerate(thirty) if settle(T, claim) == ("always",)]
        self.assertEqual(always(T, thirty), hold)
        points = built(T, common_position(T, thirty))
        self.assertEqual([k for k, claim in enumerate(thirty) if holds(points, claim)], hold)

    def test_kinds(self):
        answer = settle(T, ("same", 2, 4))
        self.assertEqual([type(answer), type(answer[1]), type(answer[1][0])], [tuple, tuple, tuple])
        self.assertIs(type(always(T, ())), list)
        self.assertEqual(settle(T, ("same", 2, 4)), answer)


class LimitsTest(unittest.TestCase):
    def is_too_great(self, call, *arguments):
        self.assertIs(type(raised(call, *arguments)), TooGreat)

    def test_too_great(self):
        figure = (("free",),) * 4 + (("middle", 0, 1, 2), ("middle", 4, 1, 3), ("foot", 0, 5, 5))
        self.assertLessEqual(max([terms(degree) for degree in point_degrees(figure[:5])]), 2500)
        self.assertGreater(terms(point_degrees(figure)[6]), 20000)
        claim = ("same", 0, 1)
        self.is_too_great(settle, figure, claim)
        self.is_too_great(least_position, figure, claim)
        self.is_too_great(always, figure, ())
        self.is_too_great(common_position, figure, ())
        figure = figure[:5]
        great = ("long", 4, 0, 4, 1)
        self.assertGreater(terms(claim_degree(figure, great)), 20000)
        self.is_too_great(settle, figure, great)
        self.is_too_great(least_position, figure, great)
        self.is_too_great(always, figure, (claim, great))
        self.is_too_great(common_position, figure, (claim, great))
        self.assertEqual(settle(figure, claim)[0], "not")

    def test_ahead_of_all_else(self):
        figure = (("at", 0, 0), ("foot", 0, 0, 0)) + (("free",),) * 3
        self.assertEqual(settle(figure, ("same", 2, 3)), ("never", 1))
        figure = figure + tuple([("inverse", n - 1, n - 2, n - 3) for n in range(5, 12)])
        self.is_too_great(settle, figure, ("same", 2, 3))
        self.is_too_great(common_position, figure, ())

    def test_grids_that_are_far_too_great(self):
        figure = (("free",), ("free",), ("on", 0, 1), ("middle", 0, 1, 2), ("part", 0, 1, 1, 2), ("foot", 2, 4, 0))
        self.assertEqual(settle(figure, ("same", 0, 1)), ("never", 3))
        figure = (("at", 0, 0), ("at", 1, 0), ("free",), ("free",), ("round", 0, 2), ("meet", 0, 2, 1, 3),
                  ("foot", 5, 2, 3), ("mirror", 4, 0, 2), ("part", 4, 7, 1, 2))
        self.assertEqual(parameters_of(figure), 5)
        claims = (("line", 0, 2, 8), ("line", 0, 2, 5), ("long", 0, 4, 0, 7), ("circle", 2, 4, 7, 3), ("line", 5, 6, 0))
        self.assertGreater(terms(grid(figure, claims)), 10 ** 6)
        self.assertEqual(always(figure, claims), [0, 1, 2])
        position = common_position(figure, claims)
        points = built(figure, position)
        self.assertEqual([holds(points, claim) for claim in claims], [True] * 3 + [False] * 2)
        for claim in claims[3:]:
            points = built(figure, least_position(figure, claim))
            self.assertFalse(holds(points, claim))

    def test_great_numbers(self):
        figure = (("at", 999983, -999979), ("at", -999961, 999959), ("at", 999953, 31), ("on", 0, 1),
                  ("middle", 0, 1, 2), ("middle", 3, 4, 2), ("mirror", 5, 3, 4), ("second", 6, 4, 3))
        self.assertEqual(settle(figure, ("same", 5, 7)), ("always",))
        self.assertEqual(settle(figure, ("long", 4, 5, 4, 6)), ("always",))
        self.assertEqual(settle(figure, ("same", 5, 6))[0], "not")
