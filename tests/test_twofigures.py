import random
import unittest

from figureclaims.building import built, made
from figureclaims.errors import TooGreat
from figureclaims.figures import check_position, parameters_of
from figureclaims.settling import settle
from figureclaims.table import point_degrees, terms
from figureclaims.twofigures import (
    agreements, are_alike, judge_pair, judge_parting, pair_grid, parting, settle_pair,
)
from tests.drawn import expected, some_figure
from tests.helpers import OTHER_KINDS, nested, raised
from tests.polys import grid_of
from tests.test_answers import POSITIONS
from tests.test_coordinates import with_degrees
from tests.test_settling import whole

# A triangle, and three ways to its middle.
TRIANGLE = (("at", 0, 0), ("free",), ("free",))
MEDIANS = TRIANGLE + (("part", 1, 2, 1, 2), ("part", 0, 2, 1, 2), ("meet", 0, 3, 1, 4))
THIRDS = TRIANGLE + (("part", 2, 1, 1, 2), ("part", 0, 3, 2, 3))
SHIFTED = TRIANGLE + (("part", 0, 2, 1, 3), ("part", 0, 1, 1, 3), ("shift", 0, 3, 4))

# The foot of the free point on the line of 0 and 1, and its mirror image, by two ways each.
ONE = (("at", 0, 0), ("at", 1, 0), ("free",), ("foot", 2, 0, 1), ("mirror", 2, 0, 1))
OTHER = (("free",), ("at", 0, 0), ("at", 3, 0), ("second", 0, 1, 2), ("part", 0, 3, 1, 2), ("other", 1, 2, 0))

# Nothing is on the line of a point with itself.
NEVER = (("at", 0, 0), ("free",), ("part", 0, 0, 1, 2), ("foot", 1, 0, 2), ("at", 5, 5))


def compared(source, many, most):
    """Pairs of figures with as many parameters, the grid of all their pairs having at most so many places."""
    found = []
    while len(found) < many:
        one, other = [some_figure(source, source.randrange(3, 6)) for _ in range(2)]
        if parameters_of(one) != parameters_of(other):
            continue
        if terms(pair_grid(one, other, all_pairs(one, other))) <= most:
            found.append((one, other))
    return found


def all_pairs(one, other):
    return [(a, b) for a in range(len(one)) for b in range(len(other))]


def agree_by_positions(one, other, a, b, source):
    """Whether two points stand at one place wherever it was tried, each figure being built."""
    seen = False
    for _ in range(60):
        position = whole(*[source.randrange(-30, 31) for _ in range(parameters_of(one))])
        places, others = expected(one, position), expected(other, position)
        if len(places) == len(one) and len(others) == len(other):
            seen = True
            if places[a] != others[b]:
                return False
    assert seen
    return True


class GridTest(unittest.TestCase):
    def test_by_hand(self):
        # The points' degrees in each parameter: 0, 0, 1, 1, 1 and 1, 0, 0, 1, 2, 1.
        self.assertEqual(point_degrees(ONE)[2:], [(1, 1)] * 3)
        self.assertEqual(point_degrees(OTHER), [(1, 1), (0, 0), (0, 0), (1, 1), (2, 2), (1, 1)])
        self.assertEqual(pair_grid(ONE, OTHER, []), (8, 8))
        self.assertEqual(pair_grid(ONE, OTHER, [(2, 4)]), (11, 11))
        self.assertEqual(pair_grid(ONE, OTHER, [(2, 4), (2, 4), (0, 0), (0, 1)]), (15, 15))
        self.assertEqual(pair_grid(ONE, OTHER, ((2, 4), (0, 0))), (12, 12))
        self.assertEqual(pair_grid(OTHER, ONE, [(4, 2)]), (11, 11))

    def test_each_parameter_by_itself(self):
        one = (("at", 0, 0), ("at", 1, 0), ("round", 0, 1), ("on", 0, 2))
        other = (("at", 0, 0), ("at", 1, 0), ("on", 0, 1), ("on", 2, 0), ("quarter", 3, 3))
        self.assertEqual(pair_grid(one, other, []), (2 + 2 + 1 + 1 + 2, 1 + 1 + 2))
        self.assertEqual(pair_grid(one, other, [(3, 4), (2, 2)]), (8 + 2 + 2 + 2 + 1, 4 + 1 + 2))

    def test_without_parameters_and_points(self):
        self.assertEqual(pair_grid((), (), []), ())
        self.assertEqual(pair_grid(ONE[:2], OTHER[1:3], [(0, 1)]), ())
        self.assertIs(type(pair_grid(ONE, OTHER, [])), tuple)

    def test_what_is_too_great(self):
        figure = (("free",),) * 3 + tuple([("inverse", n - 1, n - 2, n - 3) for n in range(3, 12)])
        degrees = point_degrees(figure)
        self.assertEqual(
            pair_grid(figure, figure, [(11, 10)]),
            tuple([2 * sum([d[k] for d in degrees]) + degrees[11][k] + degrees[10][k] for k in range(6)]),
        )


class SettleTest(unittest.TestCase):
    def test_three_ways(self):
        for one, a in [(MEDIANS, 5), (THIRDS, 4), (SHIFTED, 5)]:
            for other, b in [(MEDIANS, 5), (THIRDS, 4), (SHIFTED, 5)]:
                self.assertEqual(settle_pair(one, other, a, b), ("always",))
                self.assertIsNone(judge_pair(one, other, a, b, ("always",)))
        self.assertEqual(settle_pair(MEDIANS, THIRDS, 3, 3), ("always",))
        word, position = settle_pair(MEDIANS, THIRDS, 4, 3)
        self.assertEqual(word, "not")
        self.assertIsNone(judge_pair(MEDIANS, THIRDS, 4, 3, (word, position)))

    def test_by_hand(self):
        agreeing = [(0, 1), (2, 0), (3, 4), (4, 3)]
        for a in range(5):
            for b in range(6):
                answer = settle_pair(ONE, OTHER, a, b)
                self.assertEqual(answer[0], "always" if (a, b) in agreeing else "not", (a, b))
                self.assertIsNone(judge_pair(ONE, OTHER, a, b, answer))

    def test_never(self):
        self.assertEqual(settle_pair(NEVER, ONE, 0, 0), ("never", 0, 3))
        self.assertEqual(settle_pair(ONE, NEVER, 0, 0), ("never", 1, 3))
        self.assertEqual(settle_pair(NEVER, NEVER, 0, 0), ("never", 0, 3))
        worse = NEVER[:1] + (("foot", 0, 0, 0),) + NEVER[1:2]
        self.assertEqual(settle_pair(NEVER, worse, 4, 2), ("never", 0, 3))
        self.assertEqual(settle_pair(worse, NEVER, 2, 4), ("never", 0, 1))

    def test_without_parameters(self):
        one, other = (("at", 2, 3), ("at", 0, 0)), (("at", 0, 0), ("at", 4, 6), ("part", 0, 1, 1, 2))
        self.assertEqual(settle_pair(one, other, 0, 2), ("always",))
        self.assertEqual(settle_pair(one, other, 1, 0), ("always",))
        self.assertEqual(settle_pair(one, other, 0, 1), ("not", ()))
        self.assertEqual(settle_pair(one, other + (("middle", 0, 1, 2),), 0, 2), ("never", 1, 3))

    def test_by_going_through_the_grid(self):
        source = random.Random(337)
        seen = {}
        for one, other in compared(source, 120, 900):
            a, b = source.randrange(len(one)), source.randrange(len(other))
            grid = pair_grid(one, other, [(a, b)])
            answer = settle_pair(one, other, a, b)
            drawn = [(made(one, whole(*place)), made(other, whole(*place)), whole(*place)) for place in grid_of(grid)]
            most = max([len(places) for places, _, _ in drawn]), max([len(places) for _, places, _ in drawn])
            apart = [
                position for places, others, position in drawn
                if len(places) == len(one) and len(others) == len(other) and places[a] != others[b]
            ]
            if most[0] < len(one):
                self.assertEqual(answer, ("never", 0, most[0]))
            elif most[1] < len(other):
                self.assertEqual(answer, ("never", 1, most[1]))
            elif not apart:
                self.assertEqual(answer, ("always",))
            else:
                self.assertEqual(answer[0], "not")
                self.assertIn(answer[1], apart)
            self.assertIsNone(judge_pair(one, other, a, b, answer))
            self.assertEqual(settle_pair(one, other, a, b), answer)
            seen[answer[:2] if answer[0] == "never" else answer[0]] = True
        self.assertEqual(len(seen), 4)

    def test_numbers_that_are_hard_to_tell_from_0(self):
        for number in (2 ** 61 - 1, 2 ** 89 - 1, (2 ** 61 - 1) * (2 ** 31 - 1), 2 ** 127 - 1):
            one, other = (("at", 0, 0), ("free",)), (("at", number, 0), ("free",), ("at", 0, 0))
            answer = settle_pair(one, other, 0, 0)
            self.assertEqual(answer[0], "not")
            self.assertIsNone(judge_pair(one, other, 0, 0, answer))
            self.assertEqual(agreements(one, other), [(0, 2), (1, 1)])
            self.assertIsNone(judge_parting(one, other, parting(one, other)))


class JudgePairTest(unittest.TestCase):
    def finds(self, value, fault, one=ONE, other=OTHER, a=3, b=0):
        self.assertEqual(judge_pair(one, other, a, b, value), fault, value)

    def test_form(self):
        values = OTHER_KINDS + [
            "always", ("always", 0), ["always"], (("always",),), ("never",), ("never", 0), ("never", 3), ("not",),
            ("never", 0, 3, 0), ["never", 0, 3], ("never", 2, 0), ("never", -1, 0), ("never", 0, 5), ("never", 1, 6),
            ("never", 0, -1), ("not", whole(0, 1), 0), ["not", whole(0, 1)], ("never", (0,), 3), (0, 3), nested(39),
            ("always", whole(0, 1)), ("none", 0, 3), (["never"], 0, 3), {"always": 0}, (("not",), whole(0, 1)),
        ]
        values += [("never", i, 0) for i in OTHER_KINDS if type(i) is not int or i not in (0, 1)]
        values += [("never", i, k) for k in OTHER_KINDS for i in (0, 1) if type(k) is not int or not 0 <= k < 5]
        values += [("not", position) for position in OTHER_KINDS + POSITIONS]
        for value in values:
            self.finds(value, ("form",))
            # Ahead of all that is told of the figures.
            self.finds(value, ("form",), NEVER, OTHER)
        self.finds(("never", 0, 5), ("form",), NEVER, OTHER)
        self.finds(("never", 1, 5), ("form",), OTHER, NEVER)

    def test_never(self):
        self.finds(("never", 0, 3), None, NEVER, OTHER)
        self.finds(("never", 1, 3), None, OTHER, NEVER)
        self.finds(("never", 0, 3), None, NEVER, NEVER)
        for value in [("never", 0, 2), ("never", 0, 4), ("never", 1, 3), ("always",), ("not", whole(99, -1))]:
            self.finds(value, ("never", 0, 3), NEVER, OTHER)
            self.finds(value, ("never", 0, 3), NEVER, NEVER)
        for value in [("never", 0, 3), ("never", 1, 2), ("always",), ("not", whole(0, 0))]:
            self.finds(value, ("never", 1, 3), OTHER, NEVER)

    def test_built(self):
        for k in range(5):
            self.finds(("never", 0, k), ("built",))
            self.finds(("never", 1, k), ("built",), a=2, b=0)
        self.finds(("never", 1, 5), ("built",))

    def test_unlike(self):
        self.finds(("always",), ("unlike",))
        self.finds(("always",), ("unlike",), a=0, b=2)
        # One of both polynomials alone is nought.
        self.finds(("always",), ("unlike",), a=3, b=0)
        self.finds(("always",), ("unlike",), a=3, b=1)
        self.finds(("always",), None, a=3, b=4)

    def test_grid(self):
        self.assertEqual(pair_grid(ONE, OTHER, [(3, 0)]), (10, 10))
        self.finds(("not", whole(0, 1)), None)
        self.finds(("not", whole(10, 10)), None)
        self.finds(("not", whole(11, 10)), ("grid", 0))
        self.finds(("not", whole(10, 11)), ("grid", 1))
        self.finds(("not", whole(-1, 11)), ("grid", 0))
        self.finds(("not", ((1, 2), (0, 1))), ("grid", 0))
        self.finds(("not", ((0, 1), (1, 2))), ("grid", 1))
        # Ahead of steps that can't be done, and of points at one place.
        foot = ONE + (("foot", 0, 1, 2),)
        self.finds(("not", whole(1, 0)), ("step", 0, 5), foot)
        self.finds(("not", whole(2, 0)), ("alike",), foot)
        self.finds(("not", ((1, 1), (-1, 1))), ("grid", 1), foot)
        self.finds(("not", whole(99, 0)), ("grid", 0))

    def test_step(self):
        one, other = ONE + (("foot", 0, 0, 2),), OTHER + (("foot", 1, 0, 2),)
        self.finds(("not", whole(0, 0)), ("step", 0, 5), one, other)
        self.finds(("not", whole(3, 0)), ("step", 1, 6), one, other)
        self.finds(("not", whole(3, 0)), ("step", 0, 6), other, one, 0, 3)
        self.finds(("not", whole(0, 0)), ("step", 1, 5), other, one, 0, 3)
        self.finds(("not", whole(2, 0)), ("alike",), one, other)
        self.finds(("not", whole(2, 1)), None, one, other)
        # The one is ahead, whatever step it is.
        early = (("at", 0, 0), ("free",), ("foot", 0, 0, 1))
        self.finds(("not", whole(0, 0)), ("step", 0, 5), one, early, 3, 1)
        self.finds(("not", whole(0, 0)), ("step", 0, 2), early, one, 1, 3)

    def test_alike(self):
        self.finds(("not", whole(3, 0)), ("alike",))
        self.finds(("not", whole(3, 1)), ("alike",), a=4, b=3)
        self.finds(("not", whole(3, 1)), None)
        self.finds(("not", ()), ("alike",), ONE[:2], ONE[:2], 1, 1)
        self.finds(("not", ()), None, ONE[:2], ONE[:2], 0, 1)

    def test_all_places_of_small_grids(self):
        source = random.Random(347)
        seen = {}
        for one, other in compared(source, 200, 10 ** 6):
            a, b = source.randrange(len(one)), source.randrange(len(other))
            if terms(pair_grid(one, other, [(a, b)])) > 300:
                continue
            answer = settle_pair(one, other, a, b)
            for place in grid_of(pair_grid(one, other, [(a, b)])):
                fault = judge_pair(one, other, a, b, ("not", whole(*place)))
                if answer[0] == "never":
                    self.assertEqual(fault, answer)
                elif len(made(one, whole(*place))) < len(one):
                    self.assertEqual(fault, ("step", 0, len(made(one, whole(*place)))))
                elif len(made(other, whole(*place))) < len(other):
                    self.assertEqual(fault, ("step", 1, len(made(other, whole(*place)))))
                else:
                    alike = built(one, whole(*place))[a] == built(other, whole(*place))[b]
                    self.assertEqual(fault, ("alike",) if alike else None)
                seen[fault and fault[0]] = True
        self.assertEqual(sorted(seen, key=str), [None, "alike", "never", "step"])


class AgreementsTest(unittest.TestCase):
    def test_by_hand(self):
        self.assertEqual(agreements(ONE, OTHER), [(0, 1), (2, 0), (3, 4), (4, 3)])
        self.assertEqual(agreements(OTHER, ONE), [(0, 2), (1, 0), (3, 4), (4, 3)])
        self.assertEqual(agreements(MEDIANS, THIRDS), [(0, 0), (1, 1), (2, 2), (3, 3), (5, 4)])
        self.assertEqual(agreements(MEDIANS, SHIFTED), [(0, 0), (1, 1), (2, 2), (5, 5)])
        self.assertEqual(agreements((), ()), [])
        self.assertEqual(agreements((), ONE[:1]), [])

    def test_several_points_at_one_place(self):
        one = ONE + (("part", 2, 4, 1, 2), ("shift", 0, 0, 2))
        self.assertEqual(
            agreements(one, OTHER), [(0, 1), (2, 0), (3, 4), (4, 3), (5, 4), (6, 0)],
        )
        self.assertEqual(agreements(one, one), [
            (0, 0), (1, 1), (2, 2), (2, 6), (3, 3), (3, 5), (4, 4), (5, 3), (5, 5), (6, 2), (6, 6),
        ])

    def test_never(self):
        self.assertIsNone(agreements(NEVER, ONE))
        self.assertIsNone(agreements(ONE, NEVER))
        self.assertIsNone(parting(NEVER, ONE))
        self.assertIsNone(parting(ONE, NEVER))
        self.assertIs(are_alike(NEVER, NEVER), False)
        self.assertIs(are_alike(ONE, NEVER), False)

    def test_alike(self):
        self.assertIs(are_alike(ONE, ONE), True)
        self.assertIs(are_alike((), ()), True)
        self.assertIs(are_alike(ONE, ONE[:4]), False)
        self.assertIs(are_alike(ONE[:4], ONE), False)
        self.assertIs(are_alike(MEDIANS, SHIFTED), False)
        other = ONE[:3] + (("foot", 2, 1, 0), ("part", 2, 3, 2, 1))
        self.assertIs(are_alike(ONE, other), True)
        self.assertIs(are_alike(ONE, other[:3] + (("part", 2, 2, 1, 1),) + other[4:]), False)
        self.assertIs(are_alike(ONE, (ONE[1], ONE[0]) + ONE[2:]), False)
        self.assertIs(are_alike((("at", 1, 2),), (("at", 1, 2),)), True)
        self.assertIs(are_alike((("at", 1, 2),), (("at", 2, 1),)), False)

    def test_as_positions_tell(self):
        source = random.Random(349)
        agreeing = alike = 0
        for one, other in compared(source, 100, 10 ** 9):
            if raised(agreements, one, other) is not None:
                continue
            told = agreements(one, other)
            if told is None:
                self.assertEqual(settle_pair(one, other, 0, 0)[0], "never")
                continue
            self.assertEqual(told, [
                (a, b) for a, b in all_pairs(one, other) if agree_by_positions(one, other, a, b, source)
            ], (one, other))
            whether = len(one) == len(other) and all([(k, k) in told for k in range(len(one))])
            self.assertIs(are_alike(one, other), whether)
            agreeing, alike = agreeing + len(told), alike + whether
            self.assertEqual(sorted(told), told)
        self.assertGreater(agreeing, 60)

    def test_alike_figures_have_the_same_claims(self):
        other = ONE[:3] + (("foot", 2, 1, 0), ("part", 2, 3, 2, 1))
        for claim in [("line", 2, 3, 4), ("upright", 2, 4, 0, 1), ("same", 3, 4), ("long", 2, 3, 3, 4)]:
            self.assertEqual(settle(ONE, claim)[0], settle(other, claim)[0])


class PartingTest(unittest.TestCase):
    def test_right_ones(self):
        source = random.Random(353)
        for one, other in [(ONE, OTHER), (MEDIANS, THIRDS), (MEDIANS, SHIFTED), ((), ()), (ONE, ONE)] + compared(
            source, 60, 10 ** 9,
        ):
            if raised(agreements, one, other) is not None or agreements(one, other) is None:
                continue
            position = parting(one, other)
            check_position(one, position)
            self.assertIsNone(judge_parting(one, other, position))
            places, others = built(one, position), built(other, position)
            alike = [(a, b) for a, b in all_pairs(one, other) if places[a] == others[b]]
            self.assertEqual(alike, agreements(one, other))
            grid = pair_grid(one, other, all_pairs(one, other))
            self.assertTrue(all([b == 1 and 0 <= a <= g for (a, b), g in zip(position, grid)]))
            self.assertEqual(parting(one, other), position)

    def finds(self, value, fault, one=ONE, other=OTHER):
        self.assertEqual(judge_parting(one, other, value), fault, value)

    def test_form(self):
        for value in OTHER_KINDS + POSITIONS + [("not", whole(1, 1)), list(whole(1, 1))]:
            self.finds(value, ("form",))
        self.finds(((0, 1),), ("form",), (), ())
        self.finds([], ("form",), (), ())
        self.finds((), None, (), ())

    def test_grid(self):
        grid = pair_grid(ONE, OTHER, all_pairs(ONE, OTHER))
        self.assertEqual(grid, (8 + 6 * 3 + 5 * 5,) * 2)
        self.finds(whole(*grid), None)
        self.finds(whole(grid[0] + 1, 1), ("grid", 0))
        self.finds(whole(1, grid[0] + 1), ("grid", 1))
        self.finds(whole(-1, -1), ("grid", 0))
        self.finds(((1, 1), (1, 2)), ("grid", 1))
        # Ahead of a step, and of points at one place.
        foot = ONE + (("foot", 0, 0, 2),)
        self.finds(((0, 1), (0, 1)), ("step", 0, 5), foot)
        self.finds(((0, 1), (-1, 1)), ("grid", 1), foot)

    def test_step(self):
        one, other = ONE + (("foot", 0, 0, 2),), OTHER + (("foot", 1, 0, 2),)
        self.finds(whole(0, 0), ("step", 0, 5), one, other)
        self.finds(whole(3, 0), ("step", 1, 6), one, other)
        self.finds(whole(3, 0), ("step", 0, 6), other, one)

    def test_alike(self):
        # At x, 0 the free point, its foot and its image are one.
        self.finds(whole(7, 0), ("alike", 2, 3))
        self.finds(whole(1, 0), ("alike", 1, 0))
        self.finds(whole(0, 0), ("alike", 0, 0))
        self.finds(whole(1, 1), ("alike", 1, 4))
        self.finds(whole(3, 1), ("alike", 3, 2))
        self.finds(whole(7, 1), None)
        # Unlike numbers of points, and as many.
        self.finds(whole(7, 0), ("alike", 0, 3), OTHER, ONE[:4] + (("shift", 2, 2, 2),))
        self.finds(whole(7, 0), ("alike", 2, 3), ONE, ONE)
        self.finds(whole(7, 2), None, ONE, ONE)


def kind_of_point(figure, k):
    """What stays alike in figures of with_degrees: the ends, those on the line by each parameter, and the last."""
    if k < 2 or k == len(figure) - 1:
        return min(k, 2)
    return 2 + [step[0] for step in figure[:k + 1]].count("on")


class LimitsTest(unittest.TestCase):
    def is_too_great(self, call, *told):
        self.assertIs(type(raised(call, *told)), TooGreat, call)

    def test_figures(self):
        figure, small = with_degrees(199, 101), with_degrees(1, 1)
        for one, other in [(figure, small), (small, figure)]:
            self.is_too_great(settle_pair, one, other, 0, 0)
            for value in [("always",), None, ("never", 0, 0)]:
                self.is_too_great(judge_pair, one, other, 0, 0, value)
                self.is_too_great(judge_parting, one, other, value)
            for call in (agreements, are_alike, parting):
                self.is_too_great(call, one, other)

    def test_pairs(self):
        one, other, more = with_degrees(100, 50), with_degrees(99, 49), with_degrees(100, 49)
        a, b, c = len(one) - 1, len(other) - 1, len(more) - 1
        degrees = [point_degrees(figure)[-1] for figure in (one, other, more)]
        self.assertEqual(degrees, [(100, 50), (99, 49), (100, 49)])
        # Just 20,000 terms.
        self.assertEqual(settle_pair(one, other, a, b), ("always",))
        self.assertIsNone(judge_pair(one, other, a, b, ("always",)))
        self.assertEqual(settle_pair(one, other, a, 2)[0], "not")
        apart = one[:-1] + (("quarter", one[-1][2], one[-1][1]),)
        self.assertEqual(point_degrees(apart)[-1], (100, 50))
        self.assertEqual(judge_pair(apart, other, a, b, ("always",)), ("unlike",))
        answer = settle_pair(apart, other, a, b)
        self.assertIsNone(judge_pair(apart, other, a, b, answer))
        self.assertEqual(agreements(one, other), [
            (k, j) for k, j in all_pairs(one, other) if kind_of_point(one, k) == kind_of_point(other, j)
        ])
        self.assertIs(are_alike(one, other), False)
        self.assertIsNone(judge_parting(one, other, parting(one, other)))
        # More: for the pair alone, and so for all pairs.
        self.is_too_great(settle_pair, one, more, a, c)
        self.is_too_great(settle_pair, more, one, c, a)
        for value in [("always",), None, ("never", 0, 0)]:
            self.is_too_great(judge_pair, one, more, a, c, value)
            self.is_too_great(judge_parting, one, more, value)
        for call in (agreements, are_alike, parting):
            self.is_too_great(call, one, more)
        # Another pair of the same figures is not.
        self.assertEqual(settle_pair(one, more, 0, 0), ("always",))
        self.assertEqual(settle_pair(one, more, a, 2)[0], "not")
        self.assertEqual(judge_pair(one, more, 0, c, ("always",)), ("unlike",))

    def test_ahead_of_figures_that_are_never_built(self):
        one = with_degrees(100, 50) + (("foot", 0, 1, 1),)
        self.assertEqual(settle_pair(one, one, 0, 0), ("never", 0, len(one) - 1))
        self.is_too_great(agreements, one, one)
        self.is_too_great(are_alike, one, one)
        self.is_too_great(parting, one, one)
        self.is_too_great(settle_pair, one, one, len(one) - 2, len(one) - 2)

    def test_the_middle_of_the_circle_of_nine_points(self):
        base = (("at", 3, -7), ("free",), ("free",))
        one = base + (("part", 0, 1, 1, 2), ("part", 0, 2, 1, 2), ("part", 1, 2, 1, 2), ("middle", 3, 4, 5))
        other = base + (
            ("middle", 0, 1, 2), ("foot", 1, 0, 2), ("foot", 2, 0, 1), ("meet", 1, 4, 2, 5), ("part", 3, 6, 1, 2),
        )
        self.assertEqual(settle_pair(one, other, 6, 7), ("always",))
        self.assertEqual(agreements(one, other), [(0, 0), (1, 1), (2, 2), (6, 7)])
        self.assertIsNone(judge_parting(one, other, parting(one, other)))
