import random
import unittest

from figureclaims.figures import check_figure, parameters_of
from figureclaims.menus import fewest, lengthened, makes, menu, shortest
from figureclaims.settling import settle
from figureclaims.table import claim_degree, point_degrees, point_heights, terms
from tests.helpers import raised
from tests.test_coordinates import step_of

# The document's example.
M = (("at", 0, 0), ("at", 4, 0), ("free",), ("part", 0, 1, 1, 2), ("part", 0, 2, 1, 2), ("meet", 2, 3, 1, 4))

# Points that two steps make of 0, 1 and 2: the image of 2 in the line of 0 and 1, half way from there to 0.
TWO = (("at", 0, 0), ("at", 4, 1), ("free",), ("mirror", 2, 0, 1), ("part", 0, 3, 1, 2), ("part", 0, 1, 1, 3),
       ("quarter", 0, 2), ("foot", 4, 0, 2))

NEVER = (("at", 0, 0), ("at", 4, 0), ("free",), ("foot", 2, 0, 0), ("part", 0, 1, 1, 2))


def by_its_words(known):
    """The menu of some points, word by word as S9.4 tells."""
    pairs = [(a, b) for a in known for b in known if a < b]
    steps = [("meet", *one, *other) for one in pairs for other in pairs if one < other]
    for word in ("foot", "mirror"):
        steps += [(word, p, a, b) for p in known for a, b in pairs if p not in (a, b)]
    steps += [("part", a, b, 1, 2) for a, b in pairs]
    steps += [("other", a, b, m) for a in known for b in known for m in known if len({a, b, m}) == 3]
    steps += [("second", a, m, n) for a in known for m in known for n in known if m < n and a not in (m, n)]
    return sorted(steps)


def buildings(figure, known, many):
    n = len(figure)
    firsts = by_its_words(known)
    if many < 2:
        return [()] if many == 0 else [(step,) for step in firsts]
    return [(one, other) for one in firsts for other in by_its_words(known + (n,)) if n in other[1:]]


def is_made(figure, known, z, steps):
    """Whether a building makes a point, by its claim alone."""
    longer = figure + steps
    lasts = [len(longer) - 1] if steps else known
    return any([settle(longer, ("same", z, last)) == ("always",) for last in lasts])


class MenuTest(unittest.TestCase):
    def test_few_points(self):
        self.assertEqual(menu(()), [])
        self.assertEqual(menu((3,)), [])
        self.assertEqual(menu((2, 5)), [("part", 2, 5, 1, 2)])
        self.assertEqual(menu((0, 2, 3)), [
            ("foot", 0, 2, 3), ("foot", 2, 0, 3), ("foot", 3, 0, 2),
            ("meet", 0, 2, 0, 3), ("meet", 0, 2, 2, 3), ("meet", 0, 3, 2, 3),
            ("mirror", 0, 2, 3), ("mirror", 2, 0, 3), ("mirror", 3, 0, 2),
            ("other", 0, 2, 3), ("other", 0, 3, 2), ("other", 2, 0, 3), ("other", 2, 3, 0), ("other", 3, 0, 2),
            ("other", 3, 2, 0),
            ("part", 0, 2, 1, 2), ("part", 0, 3, 1, 2), ("part", 2, 3, 1, 2),
            ("second", 0, 2, 3), ("second", 2, 0, 3), ("second", 3, 0, 2),
        ])

    def test_more_points(self):
        for known in [(0, 1, 2, 3), (1, 4, 7, 9), (0, 1, 2, 3, 4), (2, 3), (10, 11, 200)]:
            steps = menu(known)
            self.assertEqual(steps, by_its_words(known))
            self.assertEqual(steps, sorted(steps))
            self.assertEqual(menu(list(known)), steps)
        self.assertEqual(len(menu((0, 1, 2, 3))), 15 + 12 + 12 + 6 + 24 + 12)
        self.assertIs(type(menu((0, 1))), list)

    def test_all_are_steps(self):
        figure = (("free",),) * 4
        for step in menu((0, 1, 2, 3)):
            self.assertIsNone(raised(check_figure, figure + (step,)))
            self.assertEqual(type(step), tuple)

    def test_lengthened(self):
        self.assertEqual(lengthened(M, ()), M)
        self.assertEqual(lengthened(M, (("foot", 2, 0, 1),)), M + (("foot", 2, 0, 1),))
        self.assertEqual(lengthened(M, [("foot", 2, 0, 1), ("foot", 2, 0, 6)]), M + (("foot", 2, 0, 1), ("foot", 2, 0, 6)))
        self.assertEqual(lengthened((), ()), ())


class MakesTest(unittest.TestCase):
    def test_the_example(self):
        self.assertIs(makes(M, (0, 1, 2), 3, (("part", 0, 1, 1, 2),)), True)
        self.assertIs(makes(M, (0, 1, 2), 3, (("part", 0, 2, 1, 2),)), False)
        self.assertIs(makes(M, (1, 2, 3, 4), 5, (("meet", 1, 4, 2, 3),)), True)

    def test_no_steps(self):
        self.assertIs(makes(M, (0, 1, 2), 2, ()), True)
        self.assertIs(makes(M, (0, 1, 2), 3, ()), False)
        self.assertIs(makes(M, (), 3, ()), False)
        # A point that is not known, but always at the same place as a known one.
        figure = M + (("shift", 0, 0, 2), ("at", 4, 0))
        self.assertIs(makes(figure, (0, 2), 6, ()), True)
        self.assertIs(makes(figure, (0, 6), 2, ()), True)
        self.assertIs(makes(figure, (0, 7), 1, ()), True)
        self.assertIs(makes(figure, (0, 1), 6, ()), False)

    def test_two_steps(self):
        self.assertIs(makes(TWO, (0, 1, 2), 4, (("mirror", 2, 0, 1), ("part", 0, 8, 1, 2))), True)
        self.assertIs(makes(TWO, (0, 1, 2), 4, (("part", 0, 2, 1, 2), ("mirror", 8, 0, 1))), True)
        self.assertIs(makes(TWO, (0, 1, 2), 4, (("part", 0, 2, 1, 2), ("mirror", 8, 0, 2))), False)
        self.assertIs(makes(TWO, (0, 1, 2), 4, (("mirror", 2, 0, 1),)), False)
        self.assertIs(makes(TWO, [0, 1, 2], 4, [("mirror", 2, 0, 1), ("part", 0, 8, 1, 2)]), True)

    def test_what_is_no_building(self):
        # A second step that does not name the point of the first one makes nothing by itself.
        one, other = ("part", 0, 1, 1, 2), ("part", 0, 2, 1, 2)
        self.assertIs(makes(M, (0, 1, 2), 3, (other, one)), False)
        self.assertIs(makes(M, (0, 1, 2), 3, (one, one)), False)
        self.assertIs(makes(M, (0, 1, 2), 2, (one, ("other", 0, 1, 2))), False)
        self.assertNotIn((other, one), shortest(M, (0, 1, 2), 3))
        # Nor does a step that is none of the menu, or is of points that are not known.
        self.assertIs(makes(M, (0, 1, 2), 3, (("part", 1, 0, 1, 2),)), False)
        self.assertIs(makes(M, (0, 2), 3, (one,)), False)
        self.assertIs(makes(M, (0, 1, 2), 3, (one, ("shift", 0, 0, 6))), False)

    def test_never(self):
        self.assertIs(makes(NEVER, (0, 1), 4, (("part", 0, 1, 1, 2),)), False)
        self.assertIs(makes(NEVER, (0, 1), 0, ()), False)
        # A step of the building can never be done.
        figure = (("at", 0, 0), ("at", 4, 0), ("part", 0, 1, 1, 2), ("at", 2, 0))
        self.assertIs(makes(figure, (0, 1, 2), 3, (("meet", 0, 1, 0, 2),)), False)
        self.assertIs(makes(figure, (0, 1, 2), 0, (("meet", 0, 1, 0, 2), ("other", 0, 1, 4))), False)


class FewestTest(unittest.TestCase):
    def tells(self, figure, known, z, found):
        self.assertEqual(shortest(figure, known, z), found)
        self.assertEqual(fewest(figure, known, z), len(found[0]) if found else None)
        self.assertEqual(shortest(figure, list(known), z), found)

    def test_the_example(self):
        self.tells(M, (0, 1, 2), 3, [(("part", 0, 1, 1, 2),)])
        self.tells(M, (1, 2, 3, 4), 5, [(("meet", 1, 4, 2, 3),)])
        self.tells(M, (0, 1), 2, [])

    def test_no_steps(self):
        self.tells(M, (0, 1, 2), 1, [()])
        self.tells(M + (("shift", 0, 0, 2),), (0, 2), 6, [()])
        self.tells(M, (), 0, [])
        self.tells(M, (2,), 2, [()])

    def test_never(self):
        for known, z in [((0, 1), 0), ((0, 1), 4), ((0, 1, 2), 3), ((), 0), ((0, 1, 2), 4)]:
            self.tells(NEVER, known, z, [])

    def test_one_step_by_several_ways(self):
        figure = (("at", 0, 0), ("at", 4, 1), ("free",), ("mirror", 2, 0, 1))
        self.tells(figure, (0, 1, 2), 3, [(("mirror", 2, 0, 1),), (("second", 2, 0, 1),)])
        figure = (("at", 0, 0), ("at", 4, 0), ("at", 2, 5), ("foot", 2, 0, 1))
        self.tells(figure, (0, 1, 2), 3, [(("foot", 2, 0, 1),), (("part", 0, 1, 1, 2),)])

    def test_two_steps(self):
        self.tells(TWO, (0, 1, 2), 3, [(("mirror", 2, 0, 1),), (("second", 2, 0, 1),)])
        found = shortest(TWO, (0, 1, 2), 4)
        self.assertEqual(fewest(TWO, (0, 1, 2), 4), 2)
        for steps in [
            (("mirror", 2, 0, 1), ("part", 0, 8, 1, 2)), (("second", 2, 0, 1), ("part", 0, 8, 1, 2)),
            (("part", 0, 2, 1, 2), ("mirror", 8, 0, 1)), (("part", 0, 2, 1, 2), ("second", 8, 0, 1)),
        ]:
            self.assertIn(steps, found)
        self.assertEqual(found, sorted(found))
        # A third of the way, and a quarter turn, take more.
        self.tells(TWO, (0, 1, 2), 5, [])
        self.tells(TWO, (0, 1, 2), 6, [])

    def test_as_claims_are_settled(self):
        source = random.Random(373)
        seen = {}
        for _ in range(60):
            figure = (("at", 0, 0), ("at", source.randrange(1, 4), source.randrange(3)), ("free",))
            figure = figure + (source.choice(menu((0, 1, 2)) + [("quarter", 0, 2)]),)
            figure = figure + (source.choice([step for step in menu((0, 1, 2, 3)) if 3 in step[1:]]),)
            known = source.choice([(0, 1, 2), (0, 1, 2), (0, 2), (1, 2), (0, 1, 4)])
            z = source.choice([3, 4, 4, 4, 0])
            if max([terms(degree) for degree in point_degrees(figure)]) > 60:
                continue
            expected = []
            for many in range(3):
                expected = [s for s in buildings(figure, known, many) if is_made(figure, known, z, s)]
                if expected:
                    break
            self.assertEqual(shortest(figure, known, z), expected, (figure, known, z))
            self.assertEqual(fewest(figure, known, z), len(expected[0]) if expected else None)
            for steps in source.sample(buildings(figure, known, 1) + buildings(figure, known, 2) + [()], 1):
                self.assertIs(makes(figure, known, z, steps), is_made(figure, known, z, steps))
            many = fewest(figure, known, z)
            seen[many] = seen.get(many, 0) + 1
        self.assertEqual(len(seen), 4, seen)


class LimitsTest(unittest.TestCase):
    def test_eight_points(self):
        figure = (("at", 0, 0), ("at", 7, 2), ("free",), ("foot", 2, 0, 1), ("mirror", 1, 0, 2), ("meet", 2, 3, 1, 4),
                  ("part", 2, 5, 1, 2), ("second", 3, 1, 2))
        self.assertEqual(parameters_of(figure), 2)
        self.assertLess(max(point_heights(figure)).bit_length(), 6000)
        for known in [(0, 1, 2), (0, 2, 3), (1, 3, 4)]:
            for z in range(8):
                found = shortest(figure, known, z)
                self.assertEqual(fewest(figure, known, z), len(found[0]) if found else None)
                for steps in found[:3]:
                    longer = lengthened(figure, steps)
                    if steps and terms(claim_degree(longer, ("same", z, len(longer) - 1))) <= 20000:
                        self.assertEqual(settle(longer, ("same", z, len(longer) - 1)), ("always",))

    def test_three_points_on_one_line(self):
        # Half of what is on the menu can never be done.
        figure = (("at", 0, 0), ("at", 4, 0), ("on", 0, 1), ("free",), ("part", 0, 2, 1, 3), ("part", 1, 2, 1, 4))
        self.assertIsNone(fewest(figure, (0, 1, 2), 3))
        self.assertIsNone(fewest(figure, (0, 1, 2), 4))
        self.assertEqual(shortest(figure, (0, 1, 2), 5), [
            (("part", 1, 2, 1, 2), ("part", 1, 6, 1, 2)),
        ])

    def test_each_word_of_the_menu_makes_something(self):
        figure = (("at", 1, 2), ("at", -3, 5), ("free",), ("at", 7, -4))
        words = {}
        for step in menu((0, 1, 2, 3)):
            found = shortest(figure + (step,), (0, 1, 2, 3), 4)
            if len(found[0]) == 1:
                self.assertIn((step,), found)
                words[step[0]] = True
        self.assertEqual(sorted(words), ["foot", "meet", "mirror", "other", "part", "second"])
