import random
import unittest

from figureclaims.answers import judge_answer, judge_common
from figureclaims.errors import TooGreat
from figureclaims.settling import always, common_position, grid, least_position, settle
from figureclaims.table import claim_degree, terms
from tests.helpers import OTHER_KINDS, nested, raised
from tests.polys import grid_of
from tests.test_settling import NEVER, T, small_figures, whole

LINE = ("line", 2, 3, 4)
SAME = ("same", 2, 4)

# Two free points, and the foot of the first one on the line from 0 to the second one.
FOOT = (("at", 0, 0), ("free",), ("free",), ("foot", 1, 0, 2))

POSITIONS = [
    (), ((0, 1),), ((0, 1),) * 3, [(0, 1), (0, 1)], ((0, 1), [0, 1]), ((0, 1), (2, 4)), ((0, 1), (0, 2)),
    ((0, 1), (1, 0)), ((1, -1), (0, 1)), ((0, 1), 0), ((0, 1), None), ((True, 1), (0, 1)), ((0, True), (0, 1)),
    ((0, 1), (0, 1, 1)), ((0, 1), ()), (0, 1), ((0, 1), "01"), nested(37),
]


class JudgeAnswerTest(unittest.TestCase):
    def finds(self, figure, claim, value, fault):
        self.assertEqual(judge_answer(figure, claim, value), fault, value)

    def test_form(self):
        words = OTHER_KINDS + ["never", "always", "not", (), (("always",),), nested(39)]
        pairs = [(word, 0) for word in OTHER_KINDS + ["none", ("never",)]]
        others = [
            ("never",), ("not",), ("always", 0), ("always", ()), ("never", 0, 0), ("not", whole(0, 1), 0),
            ["always"], ["never", 5], ["not", whole(0, 1)], (["never"], 5), {"always": ()},
        ]
        numbers = [("never", k) for k in OTHER_KINDS + [5, 6, 10 ** 39, (0,)] if type(k) is not int or not 0 <= k < 5]
        positions = [("not", position) for position in OTHER_KINDS + POSITIONS]
        for value in words + pairs + others + numbers + positions:
            self.finds(T, LINE, value, ("form",))
            self.finds(T, SAME, value, ("form",))
        # Ahead of all that is told of the figure.
        self.finds(NEVER, SAME, ("never", 6), ("form",))
        self.finds(NEVER, SAME, ("not", whole(0)), ("form",))

    def test_never(self):
        self.finds(NEVER, SAME, ("never", 5), None)
        self.finds(NEVER, LINE, ("never", 5), None)
        for value in [("never", 0), ("never", 4), ("always",), ("not", whole(0, 1)), ("not", whole(99, -1))]:
            self.finds(NEVER, LINE, value, ("never", 5))
            self.finds(NEVER + (("foot", 0, 1, 1),), LINE, value, ("never", 5))
        self.finds(NEVER + (("foot", 0, 1, 1),), LINE, ("never", 6), ("never", 5))

    def test_built(self):
        for k in range(5):
            self.finds(T, LINE, ("never", k), ("built",))
            self.finds(T, SAME, ("never", k), ("built",))

    def test_fails(self):
        self.finds(T, LINE, ("always",), None)
        self.finds(T, SAME, ("always",), ("fails",))
        # One of both polynomials is nought, the other one is not.
        self.finds(T, ("same", 2, 3), ("always",), ("fails",))
        self.finds(T, ("same", 0, 3), ("always",), ("fails",))

    def test_grid(self):
        self.assertEqual(grid(T, (SAME,)), (5, 5))
        self.finds(T, SAME, ("not", whole(0, 1)), None)
        self.finds(T, SAME, ("not", whole(5, 5)), None)
        self.finds(T, SAME, ("not", whole(6, 5)), ("grid", 0))
        self.finds(T, SAME, ("not", whole(5, 6)), ("grid", 1))
        self.finds(T, SAME, ("not", whole(-1, 6)), ("grid", 0))
        self.finds(T, SAME, ("not", whole(0, -1)), ("grid", 1))
        self.finds(T, SAME, ("not", ((1, 2), (1, 1))), ("grid", 0))
        self.finds(T, SAME, ("not", ((1, 1), (5, 2))), ("grid", 1))
        # Ahead of steps that can't be done, and of a claim that holds there.
        self.finds(FOOT, ("same", 1, 3), ("not", whole(1, 1, 0, 99)), ("grid", 3))
        self.finds(FOOT, ("same", 1, 3), ("not", whole(99, 1, 0, 0)), ("grid", 0))
        self.finds(T, SAME, ("not", ((1, 2), (0, 1))), ("grid", 0))
        self.finds(T, LINE, ("not", whole(7, 0)), ("grid", 0))

    def test_step(self):
        self.finds(FOOT, ("same", 1, 3), ("not", whole(1, 1, 0, 0)), ("step", 3))
        # Ahead of a claim that holds of the points before.
        self.finds(FOOT, ("same", 1, 1), ("not", whole(1, 1, 0, 0)), ("step", 3))
        two = FOOT + (("foot", 0, 1, 3),)
        self.finds(two, ("same", 1, 1), ("not", whole(1, 0, 1, 0)), ("step", 4))
        self.finds(two, ("same", 1, 3), ("not", whole(0, 0, 0, 0)), ("step", 3))

    def test_holds(self):
        self.finds(T, SAME, ("not", whole(3, 0)), ("holds",))
        self.finds(T, LINE, ("not", whole(3, 1)), ("holds",))
        self.finds(FOOT, ("same", 1, 3), ("not", whole(2, 2, 1, 1)), ("holds",))
        self.finds(FOOT, ("same", 1, 3), ("not", whole(2, 2, 1, 2)), None)

    def test_without_parameters(self):
        figure = (("at", 0, 0), ("at", 4, 0))
        self.finds(figure, ("same", 0, 1), ("not", ()), None)
        self.finds(figure, ("same", 0, 0), ("not", ()), ("holds",))
        self.finds(figure, ("same", 0, 0), ("always",), None)
        self.finds(figure, ("same", 0, 1), ("not", ((0, 1),)), ("form",))

    def test_all_places_of_small_grids(self):
        source = random.Random(167)
        seen = {}
        for figure, claims in small_figures(source, 60, 400):
            claim = claims[0]
            answer = settle(figure, claim)
            self.finds(figure, claim, answer, None)
            least = least_position(figure, claim)
            if answer[0] == "not":
                self.finds(figure, claim, ("not", least), None)
            for place in grid_of(grid(figure, (claim,)))[::3]:
                fault = judge_answer(figure, claim, ("not", whole(*place)))
                seen[fault and fault[0]] = True
                if fault is None:
                    self.assertLessEqual(least, whole(*place))
                else:
                    self.assertTrue(fault[0] in ("step", "holds") or fault == answer)
        self.assertEqual(sorted(seen, key=str), [None, "holds", "never", "step"])


class JudgeCommonTest(unittest.TestCase):
    claims = (LINE, SAME, ("same", 0, 3), LINE)

    def finds(self, figure, claims, value, fault):
        self.assertEqual(judge_common(figure, claims, value), fault, value)
        self.assertEqual(judge_common(figure, list(claims), value), fault, value)

    def test_form(self):
        for value in OTHER_KINDS + POSITIONS + [("not", whole(1, 1)), list(whole(1, 1))]:
            self.finds(T, self.claims, value, ("form",))
        self.finds((), (), ((0, 1),), ("form",))
        self.finds((), (), [], ("form",))

    def test_grid(self):
        self.assertEqual(grid(T, self.claims), (12, 12))
        self.finds(T, self.claims, whole(12, 12), None)
        self.finds(T, self.claims, whole(13, 12), ("grid", 0))
        self.finds(T, self.claims, whole(0, 13), ("grid", 1))
        self.finds(T, self.claims, whole(-1, -1), ("grid", 0))
        self.finds(T, self.claims, ((1, 1), (1, 2)), ("grid", 1))
        self.finds(T, (), whole(4, 0), ("grid", 0))
        self.finds(T, (), whole(3, 3), None)
        self.finds(FOOT, (), whole(0, 0, 0, 99), ("grid", 3))

    def test_step(self):
        self.finds(FOOT, (), whole(1, 1, 0, 0), ("step", 3))
        self.finds(FOOT, (("same", 1, 3), ("same", 1, 0)), whole(0, 0, 0, 0), ("step", 3))
        self.finds(FOOT, (("same", 1, 3), ("same", 1, 0)), whole(0, 0, 0, 1), ("holds", 0))

    def test_holds(self):
        self.finds(T, self.claims, whole(1, 0), ("holds", 1))
        self.finds(T, self.claims, whole(0, 0), ("holds", 1))
        self.finds(T, self.claims, whole(0, 1), ("holds", 2))
        self.finds(T, self.claims, whole(1, 1), None)
        self.finds(T, self.claims[2:], whole(0, 0), ("holds", 0))
        # What always holds is no fault.
        self.finds(T, (LINE, LINE), whole(0, 0), None)
        self.finds(T, (LINE, LINE, SAME), whole(5, 0), ("holds", 2))

    def test_right_ones(self):
        self.finds((), (), (), None)
        self.finds(T, (), whole(0, 0), None)
        source = random.Random(173)
        for figure, claims in small_figures(source, 60, 10 ** 6):
            position = common_position(figure, claims)
            if position is None:
                continue
            self.finds(figure, claims, position, None)
            # Each claim alone that does not hold always fails there as well.
            for n, claim in enumerate(claims):
                if n not in always(figure, claims):
                    fault = judge_answer(figure, claim, ("not", position))
                    self.assertIn(fault and fault[0], (None, "grid"))


class LimitsTest(unittest.TestCase):
    def test_too_great(self):
        figure = (("free",),) * 4 + (("middle", 0, 1, 2), ("middle", 4, 1, 3), ("foot", 0, 5, 5))
        claim = ("same", 0, 1)
        # Ahead of what is wrong in form, too.
        for value in (("always",), None, ("never", 6)):
            self.assertIs(type(raised(judge_answer, figure, claim, value)), TooGreat)
            self.assertIs(type(raised(judge_common, figure, (claim,), value)), TooGreat)
        figure = figure[:5]
        great = ("long", 4, 0, 4, 1)
        self.assertGreater(terms(claim_degree(figure, great)), 20000)
        for value in (("always",), None, ("never", 4)):
            self.assertIs(type(raised(judge_answer, figure, great, value)), TooGreat)
            self.assertIs(type(raised(judge_common, figure, (claim, great), value)), TooGreat)
        self.assertIsNone(judge_answer(figure, claim, settle(figure, claim)))
        self.assertIsNone(judge_common(figure, (claim,), common_position(figure, (claim,))))
