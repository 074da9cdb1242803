import unittest

from figureclaims.table import claim_degree, claim_height, point_degrees, point_heights, terms

# Points with the heights 2, 3, 5 and 7, and points each with two parameters alone.
AT = (("at", 2, 0), ("at", 0, -3), ("at", -5, 5), ("at", 1, 7))
FREE = (("free",),) * 4


class PointsTest(unittest.TestCase):
    def tells(self, step, height, counts, own=()):
        """The height by the points at whole places, and how often each free point's degree counts."""
        self.assertEqual(point_heights(AT + (step,)), [2, 3, 5, 7, height], step)
        degree = tuple([count for count in counts for _ in range(2)]) + own
        self.assertEqual(point_degrees(FREE + (step,))[4], degree, step)
        self.assertEqual(point_degrees(AT + (step,)), [(0,) * len(own)] * 4 + [own], step)

    def test_each_word(self):
        self.tells(("free",), 1, (0, 0, 0, 0), (1, 1))
        self.tells(("on", 0, 1), 3 * 2 * 3, (1, 1, 0, 0), (1,))
        self.tells(("round", 0, 1), 10 * 2 * 3, (1, 1, 0, 0), (2,))
        self.tells(("part", 0, 1, 4, 9), 17 * 2 * 3, (1, 1, 0, 0))
        self.tells(("quarter", 0, 1), 3 * 2 * 3, (1, 1, 0, 0))
        self.tells(("shift", 0, 1, 2), 3 * 2 * 3 * 5, (1, 1, 1, 0))
        self.tells(("meet", 0, 1, 2, 3), 8 * 2 * 3 * 5 * 7, (1, 1, 1, 1))
        self.tells(("foot", 0, 1, 2), 20 * 2 * 9 * 25, (1, 2, 2, 0))
        self.tells(("mirror", 0, 1, 2), 32 * 2 * 9 * 25, (1, 2, 2, 0))
        self.tells(("middle", 0, 1, 2), 12 * 4 * 9 * 25, (2, 2, 2, 0))
        self.tells(("other", 0, 1, 2), 40 * 8 * 9 * 5, (3, 2, 1, 0))
        self.tells(("second", 0, 1, 2), 32 * 2 * 9 * 25, (1, 2, 2, 0))
        self.tells(("inverse", 0, 1, 2), 24 * 4 * 27 * 25, (2, 3, 2, 0))

    def test_at(self):
        for x, y, height in [(0, 0, 1), (1, -1, 1), (-6, 2, 6), (4, -9, 9), (10 ** 6, 0, 10 ** 6)]:
            self.assertEqual(point_heights((("at", x, y),)), [height])
            self.assertEqual(point_degrees((("at", x, y),)), [()])
            self.assertEqual(point_degrees((("free",), ("at", x, y)))[1], (0, 0))

    def test_part(self):
        for s, k, factor in [(0, 1, 1), (-4, 9, 17), (1, 2, 4), (-10 ** 6, 10 ** 6, 3 * 10 ** 6)]:
            self.assertEqual(point_heights(AT + (("part", 1, 3, s, k),))[4], factor * 21)

    def test_points_that_are_named_twice(self):
        self.tells(("on", 1, 1), 3 * 9, (0, 2, 0, 0), (1,))
        self.tells(("shift", 1, 1, 1), 3 * 27, (0, 3, 0, 0))
        self.tells(("meet", 3, 1, 1, 3), 8 * 9 * 49, (0, 2, 0, 2))
        self.tells(("foot", 2, 2, 3), 20 * 125 * 49, (0, 0, 3, 2))
        self.tells(("foot", 2, 3, 2), 20 * 125 * 49, (0, 0, 3, 2))
        self.tells(("other", 3, 1, 3), 40 * 9 * 7 ** 4, (0, 2, 0, 4))
        self.tells(("inverse", 2, 2, 3), 24 * 5 ** 5 * 49, (0, 0, 5, 2))

    def test_parameters_in_their_order(self):
        figure = (("at", 0, 0), ("free",), ("round", 0, 1), ("on", 2, 1), ("at", 1, 1), ("free",), ("quarter", 3, 5))
        self.assertEqual(point_degrees(figure), [
            (0, 0, 0, 0, 0, 0), (1, 1, 0, 0, 0, 0), (1, 1, 2, 0, 0, 0), (2, 2, 2, 1, 0, 0),
            (0, 0, 0, 0, 0, 0), (0, 0, 0, 0, 1, 1), (2, 2, 2, 1, 1, 1),
        ])
        self.assertEqual(point_heights(figure), [1, 1, 10, 30, 1, 1, 90])

    def test_no_points(self):
        self.assertEqual(point_degrees(()), [])
        self.assertEqual(point_heights(()), [])

    def test_the_examples(self):
        figure = (("at", 0, 0), ("at", 4, 0), ("free",), ("foot", 2, 0, 1))
        self.assertEqual(point_degrees(figure)[3], (1, 1))
        self.assertEqual(point_heights(figure)[3], 320)
        figure = (("at", 0, 0), ("at", 1, 0), ("free",), ("mirror", 2, 0, 1), ("meet", 2, 3, 0, 1))
        self.assertEqual(point_degrees(figure), [(0, 0), (0, 0), (1, 1), (1, 1), (2, 2)])
        self.assertEqual(point_heights(figure), [1, 1, 1, 32, 256])
        self.assertEqual(claim_degree(figure, ("upright", 2, 4, 0, 1)), (3, 3))
        self.assertEqual(claim_height(figure, ("upright", 2, 4, 0, 1)), 2048)

    def test_new_lists(self):
        self.assertIs(type(point_degrees(FREE)), list)
        self.assertIs(type(point_degrees(FREE)[0]), tuple)
        self.assertIs(type(point_heights(FREE)), list)


class ClaimsTest(unittest.TestCase):
    def tells(self, claim, height, counts):
        self.assertEqual(claim_height(AT, claim), height, claim)
        degree = tuple([count for count in counts for _ in range(2)])
        self.assertEqual(claim_degree(FREE, claim), degree, claim)
        self.assertEqual(claim_degree(AT, claim), ())

    def test_each_word(self):
        self.tells(("same", 0, 1), 2 * 2 * 3, (1, 1, 0, 0))
        self.tells(("line", 0, 1, 2), 6 * 2 * 3 * 5, (1, 1, 1, 0))
        self.tells(("circle", 0, 1, 2, 3), 48 * 210 ** 2, (2, 2, 2, 2))
        self.tells(("parallel", 0, 1, 2, 3), 8 * 210, (1, 1, 1, 1))
        self.tells(("upright", 0, 1, 2, 3), 8 * 210, (1, 1, 1, 1))
        self.tells(("long", 0, 1, 2, 3), 16 * 210 ** 2, (2, 2, 2, 2))
        self.tells(("ratio", 0, 1, 2, 3, 0, 0, 0, 1), 128 * (210 * 8 * 3) ** 2, (8, 4, 2, 2))
        self.tells(("area", 0, 1, 2, 3, 0, 0), 12 * 210 * 4, (3, 1, 1, 1))
        # The points in the middle of the angles, 1 and 0, count once more.
        self.tells(("angle", 2, 1, 3, 3, 0, 3), 128 * 5 * 9 * 7 * 7 * 4 * 7, (2, 2, 1, 3))

    def test_points_that_are_named_twice(self):
        self.tells(("same", 2, 2), 2 * 25, (0, 0, 2, 0))
        self.tells(("circle", 3, 1, 3, 3), 48 * (3 * 343) ** 2, (0, 2, 0, 6))
        self.tells(("long", 0, 1, 0, 1), 16 * 36 ** 2, (4, 4, 0, 0))
        self.tells(("angle", 0, 0, 0, 0, 0, 0), 128 * 2 ** 8, (8, 0, 0, 0))


class TermsTest(unittest.TestCase):
    def test_terms(self):
        self.assertEqual(terms(()), 1)
        self.assertEqual(terms((0, 0)), 1)
        self.assertEqual(terms((4,)), 5)
        self.assertEqual(terms((1, 0, 2, 6)), 42)
        self.assertEqual(terms((199, 99)), 20000)


class GreatTest(unittest.TestCase):
    def test_too_great_ones_are_told_of(self):
        figure = (("free",),) * 3 + tuple([("inverse", n - 1, n - 2, n - 3) for n in range(3, 12)])
        degrees = [(1, 0, 0), (0, 1, 0), (0, 0, 1)]
        for _ in range(9):
            c, b, a = degrees[-3:]
            degrees.append(tuple([2 * x + 3 * y + 2 * z for x, y, z in zip(a, b, c)]))
        doubled = [tuple([d for d in degree for _ in range(2)]) for degree in degrees]
        self.assertEqual(point_degrees(figure), doubled)
        self.assertGreater(terms(doubled[-1]), 10 ** 20)
        claim = ("ratio",) + (11,) * 8
        self.assertEqual(claim_degree(figure, claim), tuple([16 * d for d in doubled[-1]]))
        self.assertEqual(claim_height(figure, claim), 128 * point_heights(figure)[11] ** 16)

    def test_forty_steps(self):
        figure = (("at", 10 ** 6, 1), ("at", 3, 10 ** 6))
        figure = figure + tuple([("quarter", n - 1, n - 2) for n in range(2, 22)])
        figure = figure + tuple([("on", 21, 20 - n) for n in range(18)])
        heights = point_heights(figure)
        self.assertEqual([len(figure), len(heights)], [40, 40])
        self.assertGreater(heights[21].bit_length(), 300000)
        self.assertEqual(heights[39], 3 * heights[21] * heights[3])
