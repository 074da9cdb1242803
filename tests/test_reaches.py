import unittest

from figureclaims.reaches import is_within, joined, reach_of, size_of

# The document's example.
T = (("at", 0, 0), ("at", 1, 0), ("free",), ("mirror", 2, 0, 1), ("meet", 2, 3, 0, 1))


class ReachTest(unittest.TestCase):
    def test_the_examples(self):
        self.assertEqual(reach_of(T, (("upright", 2, 4, 0, 1),)), ((3, 3), 2048))
        self.assertEqual(size_of(((3, 3), 2048)), 192)
        self.assertEqual(reach_of(T, (("long", 0, 2, 1, 2),)), ((4, 4), 256))

    def test_without_claims_and_without_points(self):
        self.assertEqual(reach_of((), ()), ((), 1))
        self.assertEqual(reach_of(T, ()), ((2, 2), 256))
        self.assertEqual(reach_of((("free",),), ()), ((1, 1), 1))
        self.assertEqual(reach_of((("at", -7, 5), ("at", 0, 0)), ()), ((), 7))

    def test_claims_above_the_points(self):
        self.assertEqual(reach_of(T, (("same", 0, 1),)), ((2, 2), 256))
        self.assertEqual(reach_of(T, (("same", 4, 4),)), ((4, 4), 2 * 256 ** 2))
        self.assertEqual(reach_of((("at", 1, 1),), (("same", 0, 0),)), ((), 2))

    def test_many_claims(self):
        claims = (("long", 0, 2, 1, 2), ("upright", 2, 4, 0, 1), ("same", 0, 1))
        self.assertEqual(reach_of(T, claims), ((4, 4), 2048))
        self.assertEqual(reach_of(T, list(claims)), ((4, 4), 2048))

    def test_each_parameter_by_itself(self):
        figure = (("free",), ("at", 0, 0), ("round", 0, 1), ("on", 0, 1), ("on", 1, 0))
        self.assertEqual(reach_of(figure, ()), ((1, 1, 2, 1, 1), 10))
        self.assertEqual(reach_of(figure, (("same", 3, 4),)), ((2, 2, 2, 1, 1), 18))
        self.assertEqual(reach_of(figure, (("same", 2, 2),)), ((2, 2, 4, 1, 1), 200))

    def test_joined(self):
        self.assertEqual(joined(((3, 1, 0), 7), ((2, 5, 0), 9)), ((3, 5, 0), 9))
        self.assertEqual(joined(((2, 5, 0), 9), ((3, 1, 0), 7)), ((3, 5, 0), 9))
        self.assertEqual(joined(((), 4), ((), 3)), ((), 4))
        self.assertEqual(joined(((1,), 4), ((2,), 3)), ((2,), 4))
        reach = joined(((3, 1), 7), ((2, 5), 9))
        self.assertEqual([type(reach), type(reach[0])], [tuple, tuple])

    def test_within(self):
        self.assertIs(is_within(((3, 1), 7), ((3, 1), 7)), True)
        self.assertIs(is_within(((3, 1), 7), ((4, 2), 8)), True)
        self.assertIs(is_within(((3, 1), 7), ((4, 0), 8)), False)
        self.assertIs(is_within(((3, 1), 7), ((2, 9), 8)), False)
        self.assertIs(is_within(((3, 1), 9), ((3, 1), 8)), False)
        self.assertIs(is_within(((), 1), ((), 1)), True)
        self.assertIs(is_within(((), 2), ((), 1)), False)

    def test_sizes(self):
        self.assertEqual(size_of(((), 1)), 2)
        self.assertEqual(size_of(((), 2)), 2)
        self.assertEqual(size_of(((), 3)), 3)
        self.assertEqual(size_of(((), 254)), 8)
        self.assertEqual(size_of(((), 255)), 9)
        self.assertEqual(size_of(((2, 1, 5), 9)), 4 * 36)
        self.assertEqual(size_of(((0, 0), 9)), 4)
        self.assertEqual(size_of(((99, 99), 2 ** 30 - 2)), 300000)
        self.assertEqual(size_of(((99, 99), 2 ** 30 - 1)), 310000)
        self.assertEqual(size_of(((300000 - 1,), 1)), 600000)
        self.assertEqual(size_of(((10 ** 9,) * 8, 10 ** 6)), 20 * (10 ** 9 + 1) ** 8)

    def test_great_heights(self):
        figure = (("at", 10 ** 6, 1), ("at", 3, 10 ** 6))
        figure = figure + tuple([("quarter", n - 1, n - 2) for n in range(2, 20)])
        degree, height = reach_of(figure, (("ratio",) + (19,) * 8,))
        self.assertEqual(degree, ())
        self.assertGreater(height.bit_length(), 10 ** 6)
        self.assertEqual(size_of((degree, height)), (height + 1).bit_length())
