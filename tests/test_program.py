"""What the document promises over the whole program: 0.1 to 0.4."""

import copy
import random
import unittest

from figureclaims.answers import judge_answer, judge_common
from figureclaims.books import book, book_claims, list_claims, list_reach, news, shows
from figureclaims.building import built, holds, made
from figureclaims.coordinates import claim_polynomials, point_triples, triple_of
from figureclaims.desk import Desk
from figureclaims.figures import check_position, named
from figureclaims.fixing import can_fix, fixed
from figureclaims.leavings import blocked, check_leaving, slope, spread, under
from figureclaims.menus import fewest, lengthened, makes, menu, shortest
from figureclaims.paths import judge_path, kind_of, kinds, path_numbers, path_paper
from figureclaims.reaches import reach_of, size_of
from figureclaims.settling import always, common_position, grid, least_position, settle
from figureclaims.shortening import shortened, twins
from figureclaims.table import claim_degree, claim_height, point_degrees, point_heights
from figureclaims.twofigures import (
    agreements, are_alike, judge_pair, judge_parting, pair_grid, parting, settle_pair,
)
from figureclaims.witnesses import all_settled, holds_at, settled, triples_at, witness
from tests.drawn import some_figure
from tests.helpers import raised
from tests.test_books import Q, SQUARE
from tests.test_desk import TRIANGLE
from tests.test_leavings import F
from tests.test_paths import CURVE
from tests.test_settling import NEVER, T, some_claim, whole
from tests.test_twofigures import ONE, OTHER

LEAVING = (None, (2, 1), None)
CLAIMS = (("line", 2, 3, 4), ("same", 2, 4), ("upright", 2, 4, 0, 1))

# A call of each function whose arguments or whose answers could be lists; a list stands where one may be passed.
CALLS = [
    (witness, [((2, 1, 5), 9)]), (triples_at, [T, (3, 5)]), (holds_at, [triples_at(T, (3, 5)), CLAIMS[0]]),
    (settled, [T, CLAIMS[1]]), (all_settled, [T, CLAIMS]), (all_settled, [NEVER, CLAIMS]),
    (can_fix, [T]), (fixed, [(("free",), ("free",), ("part", 0, 1, 1, 2))]),
    (list_claims, [Q]), (list_reach, [Q]), (book, [SQUARE]), (book, [NEVER]), (shows, [book(Q), ("line", 0, 1, 3)]),
    (news, [Q, 3]), (news, [SQUARE, 5]), (book_claims, [book(Q)]),
    (check_leaving, [F, LEAVING]), (check_leaving, [F, [1, 2]]), (check_leaving, [F, (None, [1], {})]),
    (under, [F, LEAVING]), (blocked, [F, LEAVING]), (slope, [(((1, 0), 3),), 0]), (spread, [F, (None,) * 3, 2, 0, 1]),
    (kind_of, [F, LEAVING, 3]), (kinds, [F, LEAVING]), (path_numbers, [F, LEAVING, 3]),
    (path_paper, [CURVE, (None, (1, 2)), 5]), (path_paper, [F, LEAVING, 4]),
    (judge_path, [F, LEAVING, 3, ["line", [0, 1, -1]]]), (judge_path, [F, LEAVING, 3, ("line", [0, 1, -1], ([], {}))]),
    (pair_grid, [ONE, OTHER, [(0, 1), (2, 4)]]), (settle_pair, [ONE, OTHER, 2, 0]), (settle_pair, [ONE, OTHER, 3, 0]),
    (judge_pair, [ONE, OTHER, 2, 0, [("always",)]]), (judge_pair, [ONE, OTHER, 2, 0, ("not", [(1, 1), (1, 1)])]),
    (agreements, [ONE, OTHER]), (are_alike, [ONE, ONE]), (parting, [ONE, OTHER]), (judge_parting, [ONE, OTHER, [[1]]]),
    (twins, [ONE]), (shortened, [ONE]), (menu, [(0, 1, 2)]), (lengthened, [ONE, [("foot", 2, 0, 1)]]),
    (makes, [ONE, (0, 1, 2), 3, (("foot", 2, 0, 1),)]), (fewest, [ONE, (0, 1, 2), 3]), (shortest, [ONE, (0, 1, 2), 4]),
    (settle, [T, CLAIMS[1]]), (always, [T, CLAIMS]), (common_position, [T, CLAIMS]), (least_position, [T, CLAIMS[1]]),
    (judge_answer, [T, CLAIMS[1], ["always"]]), (judge_common, [T, CLAIMS, [(1, 1)]]), (grid, [T, CLAIMS]),
    (point_triples, [T]), (triple_of, [T, 3]), (claim_polynomials, [T, CLAIMS[1]]), (point_degrees, [T]),
    (point_heights, [T]), (claim_degree, [T, CLAIMS[1]]), (claim_height, [T, CLAIMS[1]]), (reach_of, [T, CLAIMS]),
    (made, [T, whole(3, 4)]), (built, [T, whole(3, 4)]), (holds, [built(T, whole(3, 4)), CLAIMS[0]]), (named, [T[3]]),
]


def lists_in(value):
    """The lists and dicts in a value."""
    found = [value] if isinstance(value, (list, dict)) else []
    if isinstance(value, (list, tuple)):
        for part in value:
            found += lists_in(part)
    return found


def is_plain(value):
    """Whether a value, with all that is in it, is of no class of its own."""
    if type(value) in (list, tuple):
        return all([is_plain(part) for part in value])
    return value is None or type(value) in (int, str, bool)


class CallsTest(unittest.TestCase):
    def test_arguments_stay_and_answers_are_equal(self):
        for call, told in CALLS:
            before = copy.deepcopy(told)
            error = raised(call, *told)
            self.assertEqual(told, before, call)
            again = raised(call, *copy.deepcopy(told))
            self.assertIs(type(error), type(again))
            if error is not None:
                self.assertEqual(vars(error), vars(again))
                continue
            answer = call(*told)
            self.assertTrue(is_plain(answer), call)
            self.assertEqual(call(*copy.deepcopy(told)), answer, call)
            self.assertEqual(told, before, call)

    def test_returned_lists_are_new(self):
        for call, told in CALLS:
            if raised(call, *told) is not None:
                continue
            answer, again = call(*told), call(*told)
            found = lists_in(answer) + lists_in(again) + lists_in(told)
            self.assertEqual(len({id(part) for part in found}), len(found), call)

    def test_tuples_for_lists(self):
        triples, places = triples_at(T, (3, 5)), built(T, whole(3, 5))
        for claim in CLAIMS:
            self.assertIs(holds_at(tuple(triples), claim), holds_at(triples, claim))
            self.assertIs(holds(tuple(places), claim), holds(places, claim))
        pairs = [(0, 1), (2, 4)]
        self.assertEqual(pair_grid(ONE, OTHER, tuple(pairs)), pair_grid(ONE, OTHER, pairs))

    def test_true_and_false_are_no_numbers(self):
        for value in [("stays", ((True, 1), (2, 1), (0, 1))), ("never", False), ("fills", False, 2, whole(0, 2, 0))]:
            self.assertEqual(judge_path(F, LEAVING, 3, value), ("form",))
        self.assertEqual(judge_pair(ONE, OTHER, 0, 0, ("never", False, 0)), ("form",))
        self.assertEqual(judge_parting(ONE, OTHER, ((True, 1), (1, 1))), ("form",))
        desk = Desk()
        self.assertEqual(desk.act_word(("point", "a", ("at", True, 0))), "point")
        self.assertEqual(desk.act_word((True, 0)), "form")

    def test_whether_is_true_or_false(self):
        for call, told in [
            (can_fix, [T]), (holds_at, [triples_at(T, (3, 5)), CLAIMS[0]]), (shows, [book(Q), ("long", 0, 1, 1, 2)]),
            (are_alike, [ONE, OTHER]), (makes, [ONE, (0, 1), 2, ()]), (makes, [ONE, (0, 2), 2, ()]),
        ]:
            self.assertIn(call(*told), (True, False))
            self.assertIs(type(call(*told)), bool)


class DeskTest(unittest.TestCase):
    def test_what_raises_changes_nothing(self):
        desk = Desk()
        desk.do(("sheet", TRIANGLE))
        desk.mark("m")
        desk.do(("drop", "up"))
        desk.undo()
        desk.answer("line")
        for call, told in [
            (desk.do, [("drop", "nobody")]), (desk.do, [["drop", "up"]]), (desk.answer, ["nobody"]), (desk.answer, [["up"]]),
            (desk.holds_at, ["line", "short"]), (desk.where, ["a", "nobody"]), (desk.since, [{"m": 0}]),
        ]:
            before, twin = copy.deepcopy(told), desk.twin()
            error = raised(call, *told)
            self.assertIsNotNone(error)
            self.assertEqual(told, before)
            self.assertEqual(vars(raised(call, *told)), vars(error))
            for of in (Desk.sheet, Desk.acts, Desk.marks, Desk.work):
                self.assertEqual(of(desk), of(twin))
        self.assertEqual(desk.redo(), 2)

    def test_each_object_by_itself(self):
        one, other = Desk(), Desk()
        one.do(("sheet", TRIANGLE))
        one.mark("m")
        self.assertEqual((other.sheet(), other.acts(), other.marks()), (((), (), ()), [], []))


class JustOneOfThreeTest(unittest.TestCase):
    def test_the_answer_the_witness_and_the_book_agree(self):
        """0.1: never, always, or a position at which the claim fails, whichever way it is told."""
        source = random.Random(389)
        seen = {}
        for _ in range(400):
            figure = some_figure(source, source.randrange(3, 7))
            claim = some_claim(source, figure)
            if size_of(reach_of(figure, (claim,))) > 60000:
                continue
            answer, other = settle(figure, claim), settled(figure, claim)
            self.assertEqual(answer[0], other[0])
            seen[answer[0]] = seen.get(answer[0], 0) + 1
            if answer[0] == "never":
                self.assertEqual(answer, other)
                self.assertIsNone(twins(figure))
            elif answer[0] == "not":
                for _, position in (answer, other):
                    check_position(figure, position)
                    self.assertFalse(holds(built(figure, position), claim))
            else:
                for _ in range(5):
                    numbers = whole(*[source.randrange(-9, 10) for _ in range(len(grid(figure, ())))])
                    places = made(figure, numbers)
                    self.assertTrue(len(places) < len(figure) or holds(places, claim))
            if claim[0] in ("same", "line", "circle", "parallel", "upright", "long"):
                if raised(book, figure) is None and answer[0] != "never":
                    self.assertIs(shows(book(figure), claim), answer == ("always",))
        self.assertGreater(min(seen.values()), 40)
