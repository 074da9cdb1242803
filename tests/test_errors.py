import unittest

from figureclaims import errors

WITH_ONE = {"BadText": "place", "NotBuilt": "step", "BadAct": "word", "BadAsk": "word"}


class ErrorsTest(unittest.TestCase):
    def test_bases(self):
        self.assertEqual(errors.FigureError.__bases__, (ValueError,))
        for name in ["BadText", "BadTree", "TooGreat", "NotBuilt", "BadAct", "BadAsk", "NothingDone"]:
            self.assertEqual(getattr(errors, name).__bases__, (errors.FigureError,), name)
        self.assertEqual(errors.NameMissing.__bases__, (LookupError,))
        self.assertEqual(errors.UnknownName.__bases__, (errors.NameMissing,))
        self.assertFalse(issubclass(errors.FigureError, LookupError))
        self.assertFalse(issubclass(errors.UnknownName, ValueError))

    def test_attributes(self):
        for name, attribute in WITH_ONE.items():
            for told in [0, 7, None, "x", (1, 2), [1], {"a": 2}]:
                error = getattr(errors, name)(told)
                self.assertIs(getattr(error, attribute), told, name)
        for told in [None, "a", ["a"], ("a", 1)]:
            self.assertIs(errors.UnknownName(told).name, told)

    def test_no_arguments(self):
        self.assertIsInstance(errors.TooGreat(), ValueError)
        self.assertIsInstance(errors.NothingDone(), ValueError)

    def test_path_is_a_tuple(self):
        for told in [(), [], (0, 2), [0, 2], (7,), [7]]:
            path = errors.BadTree(told).path
            self.assertIs(type(path), tuple)
            self.assertEqual(path, tuple(told))

    def test_path_is_no_longer_the_list(self):
        path = [1, 2]
        error = errors.BadTree(path)
        path.append(3)
        self.assertEqual(error.path, (1, 2))

    def test_raised_and_caught(self):
        with self.assertRaises(errors.FigureError) as caught:
            raise errors.BadTree([1])
        self.assertEqual(caught.exception.path, (1,))
        with self.assertRaises(LookupError) as caught:
            raise errors.UnknownName("a")
        self.assertEqual(caught.exception.name, "a")
