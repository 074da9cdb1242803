import random
import unittest
from fractions import Fraction
from itertools import combinations
from math import gcd

from figureclaims.errors import TooGreat
from figureclaims.figures import check_position, parameters_of
from figureclaims.leavings import blocked, spread, under
from figureclaims.paths import judge_path, kind_of, kinds, path_numbers, path_paper
from figureclaims.polynomials import degrees_of
from figureclaims.table import point_degrees, terms
from tests.drawn import POINTS, circle_says, cross, expected, some_figure, vector
from tests.helpers import OTHER_KINDS, nested, raised
from tests.polys import Poly
from tests.test_coordinates import step_of
from tests.test_leavings import F, small_figures, some_leaving
from tests.test_settling import whole

# The point 2 runs on the line of 0 and 1, the point 4 is anywhere; the foot 5 stays with 2 told, if it can be done.
FOOT = (("at", 0, 0), ("at", 4, 0), ("on", 0, 1), ("at", 1, 3), ("free",), ("foot", 3, 0, 2), ("meet", 3, 4, 0, 1))

# The point 2 runs round 0, 3 on the line of 0 and 1, and 4 is the meet of two lines through them: on a curve.
CURVE = (("at", 0, 0), ("at", 4, 0), ("round", 0, 1), ("at", 1, 5), ("meet", 3, 2, 0, 1), ("shift", 0, 2, 4),
         ("on", 0, 2), ("part", 5, 4, 1, 3))


def is_line(places):
    return all([cross(vector(a, b), vector(a, c)) == 0 for a, b, c in combinations(places, 3)])


def by_places(figure, leaving, point, source):
    """The kind of a path by its places at some positions, and by its spreads."""
    step = blocked(figure, leaving)
    if step is not None:
        return "never"
    places = []
    tried = 0
    while len(places) < 12 and tried < 400:
        tried += 1
        position = tuple([(source.randrange(-9, 10), 1) if told is None else told for told in leaving])
        drawn = expected(figure, position)
        if len(drawn) == len(figure):
            places.append(drawn[point])
    places = sorted(set(places))
    if len(places) == 1:
        return "stays"
    if is_line(places):
        return "line"
    base = [three for three in combinations(places, 3) if not is_line(three)][0]
    if all([circle_says(*base, place) for place in places]):
        return "circle"
    running = [k for k, told in enumerate(leaving) if told is None]
    if all([spread(figure, leaving, point, u, v) == () for u, v in combinations(running, 2)]):
        return "curve"
    return "fills"


def some_generic_figure(source, most):
    """A figure of steps that mostly can be done."""
    figure = [("at", 0, 0), ("at", 4, 1)]
    figure += [source.choice([("free",), ("on", 0, 1), ("round", 0, 1)]) for _ in range(2)]
    while len(figure) < most:
        figure.append(step_of(source, source.choice(list(POINTS)), len(figure)))
    return tuple(figure)


def generic_figures(source, many):
    found = []
    while len(found) < many:
        figure = some_generic_figure(source, source.randrange(4, 8))
        degrees = point_degrees(figure)
        if max([terms(degree) for degree in degrees]) <= 500 and parameters_of(figure) <= 5:
            found.append((figure, some_leaving(source, figure, source.randrange(1, 4))))
    return found


class KindsTest(unittest.TestCase):
    def test_the_example(self):
        leaving = (None, None, (0, 1))
        self.assertEqual(kinds(F, leaving), ["stays", "stays", "fills", "fills", "stays"])
        self.assertEqual(path_paper(F, leaving, 3), ("fills", 0, 1, whole(0, 0, 0)))
        leaving = (None, (2, 1), None)
        self.assertEqual(kinds(F, leaving), ["stays", "stays", "line", "line", "circle"])
        self.assertEqual(path_numbers(F, leaving, 3), (0, 1, -1))
        self.assertEqual(path_numbers(F, leaving, 4), (1, 0, 0, -16))
        self.assertEqual(kind_of(F, leaving, 4), "circle")

    def test_each_kind(self):
        self.assertEqual(kinds(CURVE, (None, (1, 2))), ["stays", "stays", "circle", "stays", "line", "curve", "circle", "curve"])
        self.assertEqual(kinds(CURVE, (None, None))[5:], ["curve", "fills", "curve"])
        self.assertEqual(kinds(CURVE, ((1, 2), None)), ["stays"] * 6 + ["line", "stays"])
        self.assertEqual(kinds(CURVE, ((1, 2), (1, 2))), ["stays"] * 8)
        self.assertEqual(kind_of(CURVE, (None, None), 5), "curve")
        self.assertEqual(kind_of(CURVE, (None, None), 6), "fills")

    def test_never(self):
        # The foot on the line of 0 and 2 can be done nowhere if 2 is at 0.
        self.assertEqual(kinds(FOOT, ((0, 1), None, None)), ["never"] * 7)
        self.assertEqual(kind_of(FOOT, ((0, 1), None, None), 0), "never")
        self.assertEqual(path_paper(FOOT, ((0, 1), None, None), 1), ("never", 5))
        self.assertIsNone(path_numbers(FOOT, ((0, 1), None, None), 4))
        # The line of 3 and 4 and that of 0 and 1 are parallel if 4 is as far up as 3.
        self.assertEqual(path_paper(FOOT, (None, None, (3, 1)), 1), ("never", 6))
        self.assertEqual(kinds(FOOT, (None, None, (2, 1)))[5:], ["stays", "line"])
        self.assertEqual(kinds(FOOT, ((1, 5), None, None))[5:], ["stays", "line"])

    def test_places_of_the_whole_figure_alone(self):
        # Without the last step the point 4 fills; with it, it stands on one line: there 5 would be at 0.
        figure = (("at", 0, 0), ("at", 4, 0), ("at", 4, 4), ("at", 0, 4), ("free",))
        self.assertEqual(kind_of(figure, (None, (1, 1)), 4), "line")
        self.assertEqual(kind_of(figure + (("foot", 0, 1, 4),), (None, (1, 1)), 4), "line")
        # A path without one of its places is told as if it had it.
        figure = (("at", 0, 0), ("at", 4, 0), ("on", 0, 1), ("foot", 1, 0, 2))
        self.assertEqual(path_paper(figure, (None,), 2)[2], (whole(1), whole(2)))

    def test_no_parameters_and_no_points(self):
        self.assertEqual(kinds((), ()), [])
        self.assertEqual(kinds(F[:2], ()), ["stays", "stays"])
        self.assertEqual(path_paper(F[:2], (), 1), ("stays", ()))
        self.assertIs(type(kinds(F, (None,) * 3)), list)

    def test_by_their_places(self):
        source = random.Random(307)
        seen = {}
        for figure, leaving in generic_figures(source, 250) + small_figures(source, 100, 150):
            told = kinds(figure, leaving)
            for point in range(len(figure)):
                kind = by_places(figure, leaving, point, source)
                self.assertEqual(told[point], kind, (figure, leaving, point))
                seen[kind] = seen.get(kind, 0) + 1
            point = source.randrange(len(figure))
            self.assertEqual(kind_of(figure, leaving, point), told[point])
        self.assertEqual(sorted(seen), ["circle", "curve", "fills", "line", "never", "stays"])
        self.assertGreater(min(seen.values()), 5)

    def test_polynomials_that_hang_on_more_than_the_places(self):
        figure = (("at", 0, 0), ("at", 4, 0), ("round", 0, 1), ("on", 0, 1), ("on", 0, 2), ("foot", 1, 0, 4))
        self.assertEqual(kinds(figure, (None,) * 3), ["stays", "stays", "circle", "line", "fills", "circle"])
        # The circle with 0 and 1 as ends: x x + y y - 4 x.
        self.assertEqual(path_numbers(figure, (None,) * 3, 5), (1, -4, 0, 0))
        # The point 6 runs along the line from 0 to 2, wherever this one is.
        figure = CURVE + (("meet", 0, 6, 3, 5),)
        self.assertNotEqual(degrees_of(2, under(figure, (None, None))[8][2])[1], 0)
        self.assertEqual(kinds(figure, (None, None))[8], "curve")


class NumbersTest(unittest.TestCase):
    def test_lines(self):
        a = (("at", 0, 0), ("at", 6, 0), ("at", 0, -4), ("at", 2, 2))
        for step, numbers in [
            (("on", 0, 1), (0, 1, 0)), (("on", 0, 2), (1, 0, 0)), (("on", 1, 2), (2, -3, -12)),
            (("on", 2, 1), (2, -3, -12)), (("on", 3, 0), (1, -1, 0)), (("on", 3, 1), (1, 2, -6)),
            (("on", 3, 2), (3, -1, -4)),
        ]:
            self.assertEqual(path_numbers(a + (step,), (None,), 4), numbers, step)
        # Fractions that are told: y = 1/3, x = -5/2.
        self.assertEqual(path_numbers((("free",),), (None, (1, 3)), 0), (0, 3, -1))
        self.assertEqual(path_numbers((("free",),), ((-5, 2), None), 0), (2, 0, 5))
        self.assertEqual(path_numbers((("free",), ("part", 0, 0, 1, 1)), (None, (-1, 3)), 1), (0, 3, 1))

    def test_circles(self):
        a = (("at", 0, 0), ("at", 6, 0), ("at", 1, -4), ("part", 0, 2, 1, 2))
        for step, numbers in [
            (("round", 0, 1), (1, 0, 0, -36)), (("round", 1, 0), (1, -12, 0, 0)),
            (("round", 2, 0), (1, -2, 8, 0)), (("round", 0, 2), (1, 0, 0, -17)),
            # About (1/2, -2), through (0, 0), and through (6, 0).
            (("round", 3, 0), (1, -1, 4, 0)), (("round", 3, 1), (1, -1, 4, -30)),
            # About (0, 0), through (1/2, -2).
            (("round", 0, 3), (4, 0, 0, -17)),
        ]:
            self.assertEqual(path_numbers(a + (step,), (None,), 4), numbers, step)
            self.assertEqual(kind_of(a + (step,), (None,), 4), "circle")

    def test_others(self):
        for point in (0, 2):
            self.assertIsNone(path_numbers(F, (None, None, (0, 1)), point))
        self.assertIsNone(path_numbers(CURVE, (None, (1, 2)), 5))

    def test_all_places_lie_there(self):
        source = random.Random(311)
        lines = circles = 0
        for figure, leaving in generic_figures(source, 200):
            told = kinds(figure, leaving)
            for point, kind in enumerate(told):
                numbers = path_numbers(figure, leaving, point)
                if kind not in ("line", "circle"):
                    self.assertIsNone(numbers)
                    continue
                lines, circles = lines + (kind == "line"), circles + (kind == "circle")
                self.assertEqual([type(numbers), len(numbers)], [tuple, 3 if kind == "line" else 4])
                self.assertEqual(gcd(*numbers), 1)
                self.assertGreater([number for number in numbers if number != 0][0], 0)
                self.assertTrue(numbers[0] > 0 or kind == "line" and numbers[1] > 0)
                x, y, w = [Poly(leaving.count(None), p) for p in under(figure, leaving)[point]]
                parts = [x, y, w] if kind == "line" else [x * x + y * y, x * w, y * w, w * w]
                self.assertEqual(sum([n * part for n, part in zip(numbers, parts)]).told(), ())
        self.assertGreater(min(lines, circles), 30)


class PapersTest(unittest.TestCase):
    def is_right(self, figure, leaving, point, paper):
        """Whether a paper's positions are integers as S8.4 tells, and judge_path takes it."""
        self.assertIsNone(judge_path(figure, leaving, point, paper), (figure, leaving, point, paper))
        positions = () if paper[0] == "never" else paper[-1] if paper[0] in ("line", "circle", "curve") else paper[-1:]
        degrees = point_degrees(figure)
        for position in positions:
            check_position(figure, position)
            for k, (told, number) in enumerate(zip(leaving, position)):
                if told is not None:
                    self.assertEqual(number, told)
                else:
                    most = sum([degree[k] for degree in degrees]) + 3 * degrees[point][k]
                    self.assertTrue(number[1] == 1 and 0 <= number[0] <= most)

    def test_of_each_kind(self):
        source = random.Random(313)
        seen = {}
        for figure, leaving in generic_figures(source, 200) + small_figures(source, 60, 150):
            told = kinds(figure, leaving)
            for point in range(len(figure)):
                paper = path_paper(figure, leaving, point)
                self.assertEqual(paper[0], told[point])
                self.is_right(figure, leaving, point, paper)
                self.assertEqual(path_paper(figure, leaving, point), paper)
                if paper[0] in ("line", "circle"):
                    self.assertEqual(paper[1], path_numbers(figure, leaving, point))
                if paper[0] == "never":
                    self.assertEqual(paper[1], blocked(figure, leaving))
                seen[paper[0]] = seen.get(paper[0], 0) + 1
        self.assertEqual(len(seen), 6)
        self.assertGreater(min(seen.values()), 10)

    def test_by_hand(self):
        leaving = (None, (2, 1), None)
        self.assertEqual(path_paper(F, leaving, 0), ("stays", ((0, 1), (2, 1), (0, 1))))
        word, numbers, positions = path_paper(F, leaving, 4)
        self.assertEqual((word, numbers, len(positions)), ("circle", (1, 0, 0, -16), 3))
        word, positions = path_paper(CURVE, (None, (1, 2)), 5)
        self.assertEqual((word, len(positions)), ("curve", 4))

    def test_steps_that_can_be_done_at_few_positions(self):
        # The point 2 at whole places of the line from 0 to 1, and lines that are none there.
        figure = (("at", 0, 0), ("at", 1, 0), ("on", 0, 1))
        for x in range(6):
            figure = figure + (("at", x, 0), ("foot", 0, 2, len(figure)))
        paper = path_paper(figure, (None,), 2)
        self.assertEqual(paper, ("line", (0, 1, 0), (whole(6), whole(7))))
        self.is_right(figure, (None,), 2, paper)


class JudgeTest(unittest.TestCase):
    LEAVING = (None, (2, 1), None)

    def finds(self, value, fault, point=4, figure=F, leaving=LEAVING):
        self.assertEqual(judge_path(figure, leaving, point, value), fault, value)

    def test_form(self):
        one, two, three, four = [tuple([at(0, k) for k in range(n)]) for n in (1, 2, 3, 4)]
        for value in OTHER_KINDS + ["never", "stays", (), nested(39), ("stays",), ["stays", at(0, 0)], (("stays",), 1)]:
            self.finds(value, ("form",))
        for word in ("never", "stays", "line", "circle", "curve", "fills"):
            self.finds((word,), ("form",))
            self.finds((word, 0, 0, 0, 0, 0), ("form",))
            self.finds([word, at(0, 0)], ("form",))
            self.finds((word, None), ("form",))
        for k in OTHER_KINDS + [5, 6, (0,), "0"]:
            if type(k) is not int or not 0 <= k < 5:
                self.finds(("never", k), ("form",))
        self.finds(("never", 0, 0), ("form",))
        for position in WRONG_POSITIONS:
            self.finds(("stays", position), ("form",))
            self.finds(("fills", 0, 2, position), ("form",))
            self.finds(("line", (0, 1, 0), (at(0, 0), position)), ("form",))
            self.finds(("circle", (1, 0, 0, -16), (position, at(0, 0), at(0, 1))), ("form",))
            self.finds(("curve", (at(0, 0), position, at(0, 0), at(0, 1))), ("form",))
        for positions in [one, three, four, list(two), (), at(0, 0), None, (at(0, 0), None)]:
            self.finds(("line", (0, 1, -2), positions), ("form",))
        for positions in [one, two, four, list(three), (), at(0, 0), None]:
            self.finds(("circle", (1, 0, 0, -16), positions), ("form",))
        for positions in [one, two, three, four + one, list(four), ()]:
            self.finds(("curve", positions), ("form",))
        self.finds(("stays", at(0, 0), at(0, 0)), ("form",))
        self.finds(("curve", (1, 0, 0, -16), four), ("form",))

    def test_form_of_numbers(self):
        two, three = (at(0, 0), at(0, 1)), (at(0, 0), at(0, 1), at(0, 2))
        for numbers in [
            (0, 0, 1), (0, 0, 0), (0, -1, 2), (-1, 0, 0), (2, 4, 6), (0, 2, 0), (0, 1), (0, 1, 2, 3), [0, 1, 2],
            (0, 1, True), (False, 1, 0), (0, 1, None), (0, 1, "0"), (0, 1, (0,)), (-1, 5, 3), None, 7, (),
        ]:
            self.finds(("line", numbers, two), ("form",))
        for numbers in [
            (0, 1, 0, 0), (0, 0, 0, 1), (-1, 0, 0, 16), (2, 0, 0, -32), (1, 0, 0), (1, 0, 0, -16, 0), [1, 0, 0, -16],
            (True, 0, 0, -16), (1, 0, 0, None), (1, False, 0, -16), (3, 3, 6, 9), None, (),
        ]:
            self.finds(("circle", numbers, three), ("form",))
        # In form, though not right.
        for numbers in [(0, 1, -2), (1, 0, 0), (0, 1, 10 ** 39), (1, -1, 0), (6, 10, 15), (0, 3, -1), (3, 0, 1)]:
            self.assertNotEqual(judge_path(F, self.LEAVING, 2, ("line", numbers, two)), ("form",))
        for numbers in [(1, 0, 0, 0), (1, -5, 7, 10 ** 39), (6, 10, 15, 0), (2, 0, 0, -31)]:
            self.finds(("circle", numbers, three), ("all",))

    def test_form_of_running_parameters(self):
        for u, v in [
            (0, 1), (1, 2), (2, 0), (0, 0), (2, 2), (0, 3), (-1, 2), (False, 2), (0, True), (None, 2), (0, None),
            ("0", 2), (0, "2"), ((0,), 2), (0, [2]), (10 ** 39, 2), (0, 10 ** 39),
        ]:
            self.finds(("fills", u, v, at(0, 0)), ("form",), 2)
        self.finds(("fills", 0, 2, at(0, 0)), ("places",), 2)

    def test_never(self):
        leaving = ((0, 1), None, None)
        inside = ((0, 1), (0, 1), (0, 1))
        for value in [
            ("never", 4), ("never", 6), ("stays", inside), ("stays", whole(9, 9, 9)), ("line", (0, 1, 0), (inside,) * 2),
            ("circle", (1, 0, 0, 0), (inside,) * 3), ("curve", (inside,) * 4), ("fills", 1, 2, inside),
        ]:
            self.finds(value, ("never",), 2, FOOT, leaving)
        self.finds(("never", 5), None, 2, FOOT, leaving)
        self.finds(("never", 5), None, 6, FOOT, leaving)
        self.finds(("never", 7), ("form",), 6, FOOT, leaving)
        for k in range(5):
            self.finds(("never", k), ("never",))

    def test_leaving(self):
        out, off = ((0, 1), (3, 1), (0, 1)), ((0, 1), (2, 3), (1, 1))
        self.finds(("stays", out), ("leaving", 0), 0)
        self.finds(("fills", 0, 2, out), ("leaving", 0), 0)
        self.finds(("line", (0, 1, -2), (at(0, 0), off)), ("leaving", 1), 2)
        self.finds(("line", (0, 1, -2), (out, off)), ("leaving", 0), 2)
        self.finds(("circle", (1, 0, 0, -16), (at(0, 0), at(0, 1), out)), ("leaving", 2))
        self.finds(("curve", (at(0, 0), off, at(0, 1), out)), ("leaving", 1))
        # Ahead of positions at which the figure is not built, also of earlier ones.
        figure, leaving = FOOT, (None, None, (2, 1))
        broken, outside = whole(0, 0, 2), whole(1, 0, 3)
        self.finds(("line", (0, 1, 0), (broken, outside)), ("leaving", 1), 2, figure, leaving)
        self.finds(("line", (0, 1, 0), (broken, whole(1, 0, 2))), ("built", 0), 2, figure, leaving)

    def test_built(self):
        leaving = (None, None, (2, 1))
        broken = whole(0, 0, 2)
        for value, k in [
            (("stays", broken), 0), (("fills", 0, 1, broken), 0),
            (("line", (5, 5, 1), (whole(1, 0, 2), broken)), 1), (("line", (0, 1, 0), (broken, broken)), 0),
            (("circle", (1, 0, 0, 5), (whole(1, 0, 2), whole(1, 1, 2), broken)), 2),
            (("curve", (whole(1, 0, 2), whole(1, 1, 2), broken, broken)), 2),
        ]:
            # Ahead of what does not hold of the whole path, and a later step counts for an earlier point.
            self.finds(value, ("built", k), 2, FOOT, leaving)
            self.finds(value, ("built", k), 0, FOOT, leaving)

    def test_all(self):
        two, three, four = [tuple([at(0, k) for k in range(n)]) for n in (2, 3, 4)]
        self.finds(("stays", at(0, 0)), ("all",))
        self.finds(("stays", at(5, 0)), ("all",), 2)
        self.finds(("line", (0, 1, 0), two), ("all",))
        self.finds(("line", (0, 1, -1), two), ("all",), 2)
        self.finds(("circle", (1, 0, 0, -15), three), ("all",))
        self.finds(("circle", (1, 1, 0, -16), three), ("all",))
        self.finds(("circle", (1, 0, 0, -16), three), ("all",), 2)
        # Ahead of places that are not as told.
        self.finds(("line", (0, 1, -1), (at(0, 0), at(0, 0))), ("all",), 2)
        self.finds(("circle", (2, 0, 0, -1), (at(0, 0),) * 3), ("all",))
        # A point that fills is on no curve.
        fills = (None, None, (0, 1))
        self.finds(("curve", (whole(0, 0, 0),) * 4), ("all",), 2, F, fills)
        self.finds(("curve", four), ("places",), 4)

    def test_places(self):
        two, three = (at(0, 0), at(5, 0)), (at(0, 0), at(1, 0), at(0, 1))
        self.finds(("line", (0, 1, -2), two), None, 2)
        self.finds(("line", (0, 1, -2), (at(0, 0), at(0, 7))), ("places",), 2)
        self.finds(("line", (0, 1, -2), (at(3, 1), at(3, 1))), ("places",), 2)
        circle = (1, 0, 0, -16)
        self.finds(("circle", circle, three), ("places",))
        self.finds(("circle", circle, (at(0, 0), at(0, 1), at(0, 1))), ("places",))
        self.finds(("circle", circle, (at(0, 0), at(0, 1), at(0, 2))), None)
        self.finds(("circle", circle, (at(9, 0), ((1, 7), (2, 1), (-5, 3)), at(8, -1))), None)
        positions = [((k, 1), (1, 2)) for k in range(4)]
        self.assertIsNone(judge_path(CURVE, (None, (1, 2)), 5, ("curve", tuple(positions))))
        for wrong in [
            (positions[0], positions[0], positions[2], positions[3]), (positions[0], positions[1], positions[1], positions[2]),
            (positions[0], positions[1], positions[2], positions[0]), (positions[0], positions[1], positions[2], positions[2]),
        ]:
            self.assertEqual(judge_path(CURVE, (None, (1, 2)), 5, ("curve", tuple(wrong))), ("places",))
        # Four places on one circle, or the first three of them on a line.
        self.finds(("curve", (at(0, 0), at(0, 1), at(0, 2), at(0, 3))), ("places",))
        self.finds(("curve", (at(0, 0), at(1, 0), at(2, 0), at(3, 0))), ("places",), 2)

    def test_spreads_at_a_position(self):
        # x t, y t for the point on the way from 0 to the free one: the spread in x and y is t t.
        figure = (("at", 0, 0), ("free",), ("on", 0, 1))
        leaving = (None, None, None)
        for u, v, position, right in [
            (0, 1, whole(5, 5, 0), False), (0, 1, whole(0, 0, 1), True), (0, 1, ((1, 3), (2, 7), (-1, 10 ** 39)), True),
            (0, 2, whole(5, 5, 0), False), (0, 2, whole(5, 0, 3), False), (0, 2, ((5, 1), (1, 3), (2, 5)), True),
            (1, 2, whole(5, 5, 0), False), (1, 2, whole(0, 5, 3), False), (1, 2, whole(-1, 5, 3), True),
        ]:
            self.finds(("fills", u, v, position), None if right else ("places",), 2, figure, leaving)
        # The free one hangs on two of the parameters alone.
        self.finds(("fills", 0, 2, whole(1, 2, 3)), ("places",), 1, figure, leaving)
        self.finds(("fills", 0, 1, whole(1, 2, 3)), None, 1, figure, leaving)
        self.finds(("fills", 1, 2, ((7, 2), (2, 1), (3, 1))), None, 2, figure, ((7, 2), None, None))
        self.finds(("fills", 1, 2, ((5, 2), (2, 1), (3, 1))), ("leaving", 0), 2, figure, ((7, 2), None, None))

    def test_papers_of_another_kind(self):
        # A point that stays lies on each line and circle through its place, but never at two.
        self.finds(("line", (0, 1, 0), (at(0, 0), at(1, 0))), ("places",), 1)
        self.finds(("line", (1, 1, -4), (at(0, 0), at(1, 0))), ("places",), 1)
        self.finds(("line", (0, 1, -1), (at(0, 0), at(1, 0))), ("all",), 1)
        self.finds(("circle", (1, 0, 0, -16), (at(0, 0), at(1, 0), at(2, 0))), ("places",), 1)
        self.finds(("circle", (1, 0, 0, -15), (at(0, 0), at(1, 0), at(2, 0))), ("all",), 1)
        self.finds(("stays", ((-7, 3), (2, 1), (10 ** 39, 7))), None, 1)
        # All spreads of a line and of a circle are nought, but places of a curve are apart from these.
        self.finds(("curve", tuple([at(0, k) for k in range(4)])), ("places",), 4)
        self.finds(("curve", tuple([at(k, 0) for k in range(4)])), ("places",), 2)
        self.finds(("curve", tuple([at(k, 0) for k in range(4)])), ("places",), 0)
        # Fills tells nothing of the whole path.
        self.finds(("fills", 0, 2, at(1, 1)), ("places",), 0)
        self.finds(("fills", 0, 2, at(1, 1)), ("places",), 4)

    def test_papers_that_are_not_its_own(self):
        source = random.Random(317)
        taken = {}
        for figure, leaving in generic_figures(source, 80):
            running = [k for k, told in enumerate(leaving) if told is None]
            drawn = [[(source.randrange(-5, 6), source.choice([1, 1, 2, 3])) for _ in running] for _ in range(8)]
            positions = []
            for numbers in drawn:
                position = list(leaving)
                for k, (above, below) in zip(running, numbers):
                    value = Fraction(above, below)
                    position[k] = (value.numerator, value.denominator)
                if len(expected(figure, tuple(position))) == len(figure):
                    positions.append(tuple(position))
            for point in range(len(figure)):
                kind = kind_of(figure, leaving, point)
                if kind == "never" or len(positions) < 4:
                    continue
                places = [expected(figure, position)[point] for position in positions]
                numbers = path_numbers(figure, leaving, point)
                fault = None
                if kind == "line":
                    value = (kind, numbers, tuple(positions[:2]))
                    fault = ("places",) if places[0] == places[1] else None
                elif kind == "circle":
                    value = (kind, numbers, tuple(positions[:3]))
                    fault = ("places",) if is_line(places[:3]) else None
                elif kind == "curve":
                    value = (kind, tuple(positions[:4]))
                    fault = ("places",) if is_line(places[:3]) or circle_says(*places[:4]) else None
                elif kind == "stays":
                    value = (kind, positions[0])
                else:
                    u, v = running[:2]
                    value = (kind, u, v, positions[0])
                    p = Poly(len(running), spread(figure, leaving, point, u, v))
                    place = [Fraction(*positions[0][k]) for k in running]
                    fault = None if p.at(place) != 0 else ("places",)
                self.assertEqual(judge_path(figure, leaving, point, value), fault, (figure, leaving, point, value))
                taken[kind, fault] = taken.get((kind, fault), 0) + 1
        self.assertGreater(len(taken), 7)


def at(x, t):
    """A position of the leaving under which most is judged."""
    return (x, 1), (2, 1), (t, 1)


WRONG_POSITIONS = [
    None, 0, "", (), [], ((0, 1),), ((0, 1), (2, 1)), ((0, 1),) * 4, [(0, 1), (2, 1), (0, 1)], ((0, 1), (2, 1), None),
    ((0, 1), (2, 1), (2, 4)), ((0, 1), (2, 1), (1, 0)), ((0, 1), (2, 1), [0, 1]), ((0, 1), (2, 1), (True, 1)),
    ((0, 1), (2, 1), 0), (None, (2, 1), None), nested(36),
]


class LimitsTest(unittest.TestCase):
    def test_too_great(self):
        figure = (("free",),) * 4 + (("middle", 0, 1, 2), ("middle", 4, 1, 3), ("foot", 0, 5, 5))
        leaving = ((1, 2),) * 8
        for call, more in [(kind_of, (0,)), (kinds, ()), (path_numbers, (0,)), (path_paper, (0,))]:
            self.assertIs(type(raised(call, figure, leaving, *more)), TooGreat)
        # Ahead of what is wrong in form.
        for value in (None, ("never", 0), ("stays", leaving)):
            self.assertIs(type(raised(judge_path, figure, leaving, 0, value)), TooGreat)

    def test_many_terms(self):
        source = random.Random(331)
        done = {}
        while len(done) < 4:
            figure = some_generic_figure(source, 12)
            degrees = point_degrees(figure)
            if parameters_of(figure) > 5 or not 500 < max([terms(degree) for degree in degrees]) <= 2500:
                continue
            leaving = list(some_leaving(source, figure, 3))
            leaving = tuple([told and (123457, 999983) for told in leaving])
            running = [k for k, told in enumerate(leaving) if told is None]
            most = [terms([degree[k] for k in running]) for degree in degrees]
            if not 100 <= max(most) <= 150 or blocked(figure, leaving) is not None:
                continue
            point = most.index(max(most))
            paper = path_paper(figure, leaving, point)
            self.assertEqual(paper[0], kinds(figure, leaving)[point])
            self.assertIsNone(judge_path(figure, leaving, point, paper))
            done[len(done)] = paper[0]
