import unittest

from figureclaims.errors import TooGreat, UnknownName
from figureclaims.layouts import claim_laid, figure_of, place_named, places_of, size_of
from figureclaims.sheets import check_sheet
from tests.helpers import OTHER_KINDS, put, raised

HALF = ("half", ("a", "b"), (("m", ("part", "a", "b", 1, 2)),), "m")
NONE = ("none", ("a", "b"), (), "b")
THIRD = (
    "third", ("b", "a"),
    (("h", ("use", "half", ("a", "b"))), ("n", ("free",)), ("k", ("use", "half", ("h", "n"))),
     ("x", ("use", "none", ("k", "h"))), ("y", ("shift", "x", "k", "a"))),
    "k",
)


def chain(many, first_rows, given):
    """Ways, each of which but the first one uses the one before it twice."""
    ways = [("w0", ("a",), first_rows, given)]
    for k in range(1, many):
        before = "w%d" % (k - 1)
        rows = (("x", ("use", before, ("a",))), ("y", ("use", before, ("x",))))
        ways.append(("w%d" % k, ("a",), rows, "y"))
    return tuple(ways)


def used_once(ways, name):
    rows = (("p", ("at", 1, 2)), ("q", ("use", name, ("p",))))
    return (ways, rows, (("claim", "c", ("same", "p", "q")), ("position", "d", ())))


def free_rows(many):
    return tuple([("p%d" % k, ("free",)) for k in range(many)])


class LaidOutTest(unittest.TestCase):
    def laid(self, sheet, figure, places):
        check_sheet(sheet)
        self.assertEqual(size_of(sheet), len(figure))
        self.assertEqual(figure_of(sheet), figure)
        self.assertEqual(places_of(sheet), places)
        for row, place in zip(sheet[1], places):
            self.assertEqual(place_named(sheet, row[0]), place)

    def test_nothing(self):
        self.laid(((), (), ()), (), ())
        self.laid(((HALF, THIRD[:2] + ((), "b")), (), ()), (), ())

    def test_plain_rows(self):
        rows = (
            ("b", ("at", 0, -5)), ("a", ("free",)), ("c", ("part", "a", "b", -1, 3)),
            ("d", ("meet", "c", "a", "b", "c")), ("e", ("inverse", "d", "d", "a")),
        )
        figure = (
            ("at", 0, -5), ("free",), ("part", 1, 0, -1, 3), ("meet", 2, 1, 0, 2),
            ("inverse", 3, 3, 1),
        )
        self.laid(((), rows, ()), figure, (0, 1, 2, 3, 4))

    def test_integers_are_no_points(self):
        ways = (("w", ("a", "b"), (("m", ("at", -1, -2)), ("n", ("part", "m", "b", -2, 1))), "n"),)
        rows = (("p", ("free",)), ("q", ("free",)), ("r", ("use", "w", ("q", "p"))))
        figure = (("free",), ("free",), ("at", -1, -2), ("part", 2, 0, -2, 1))
        self.laid((ways, rows, ()), figure, (0, 1, 3))

    def test_uses(self):
        rows = (
            ("p", ("free",)), ("q", ("at", 1, 1)), ("r", ("use", "half", ("q", "p"))),
            ("s", ("use", "half", ("r", "r"))), ("t", ("on", "s", "r")),
        )
        figure = (("free",), ("at", 1, 1), ("part", 1, 0, 1, 2), ("part", 2, 2, 1, 2), ("on", 3, 2))
        self.laid(((HALF,), rows, ()), figure, (0, 1, 2, 3, 4))

    def test_ways_without_rows(self):
        rows = (
            ("p", ("free",)), ("q", ("at", 1, 1)), ("r", ("use", "none", ("q", "p"))),
            ("s", ("use", "none", ("r", "q"))), ("t", ("use", "none", ("t0", "s"))),
        )
        rows = rows[:4] + (("t", ("use", "none", ("s", "s"))), ("u", ("on", "r", "t")))
        self.laid(((NONE,), rows, ()), (("free",), ("at", 1, 1), ("on", 0, 1)), (0, 1, 0, 1, 1, 2))

    def test_ways_in_ways(self):
        rows = (("p", ("free",)), ("q", ("at", 1, 1)), ("r", ("use", "third", ("p", "q"))),
                ("s", ("use", "third", ("r", "r"))), ("t", ("on", "p", "s")))
        figure = (
            ("free",), ("at", 1, 1),
            ("part", 1, 0, 1, 2), ("free",), ("part", 2, 3, 1, 2), ("shift", 2, 4, 1),
            ("part", 4, 4, 1, 2), ("free",), ("part", 6, 7, 1, 2), ("shift", 6, 8, 4),
            ("on", 0, 8),
        )
        self.laid(((HALF, NONE, THIRD), rows, ()), figure, (0, 1, 4, 8, 10))

    def test_a_use_exchanged_for_its_rows(self):
        parts = (("claim", "c", ("line", "p", "r", "s")),)
        rows = (("p", ("free",)), ("q", ("at", 1, 1)), ("r", ("use", "third", ("p", "q"))),
                ("s", ("use", "half", ("r", "q"))))
        whole = ((HALF, NONE, THIRD), rows, parts)
        exchanged = (
            ("p", ("free",)), ("q", ("at", 1, 1)),
            ("h1", ("use", "half", ("q", "p"))), ("n1", ("free",)),
            ("k1", ("use", "half", ("h1", "n1"))), ("x1", ("use", "none", ("k1", "h1"))),
            ("y1", ("shift", "x1", "k1", "q")), ("s", ("use", "half", ("k1", "q"))),
        )
        other = ((HALF, NONE, THIRD), exchanged, (("claim", "c", ("line", "p", "k1", "s")),))
        check_sheet(other)
        self.assertEqual(figure_of(other), figure_of(whole))
        for name in ["p", "q", "s"]:
            self.assertEqual(place_named(other, name), place_named(whole, name))
        self.assertEqual(place_named(other, "k1"), place_named(whole, "r"))
        self.assertEqual(claim_laid(other, "c"), claim_laid(whole, "c"))

    def test_claims(self):
        rows = (("p", ("free",)), ("q", ("use", "none", ("p", "p"))), ("r", ("use", "half", ("q", "p"))))
        parts = (
            ("claim", "c", ("same", "q", "p")), ("position", "d", ((1, 2),)),
            ("claim", "e", ("ratio", "p", "q", "r", "p", "r", "r", "q", "q")),
        )
        sheet = ((HALF, NONE), rows, parts)
        check_sheet(sheet)
        self.assertEqual(claim_laid(sheet, "c"), ("same", 0, 0))
        self.assertEqual(claim_laid(sheet, "e"), ("ratio", 0, 0, 1, 0, 1, 1, 0, 0))

    def test_plain_tuples(self):
        rows = (("p", ("free",)), ("q", ("use", "half", ("p", "p"))))
        sheet = ((HALF,), rows, (("claim", "c", ("same", "q", "p")),))
        for told in [figure_of(sheet), places_of(sheet), claim_laid(sheet, "c"), *figure_of(sheet)]:
            self.assertIs(type(told), tuple)


class TooGreatTest(unittest.TestCase):
    def is_too_great(self, sheet, size, name, claim):
        check_sheet(sheet)
        self.assertEqual(size_of(sheet), size)
        for call in [figure_of, places_of]:
            self.assertIs(type(raised(call, sheet)), TooGreat)
        self.assertIs(type(raised(place_named, sheet, name)), TooGreat)
        self.assertIs(type(raised(claim_laid, sheet, claim)), TooGreat)

    def fits(self, sheet, size):
        check_sheet(sheet)
        self.assertEqual(size_of(sheet), size)
        self.assertEqual(len(figure_of(sheet)), size)

    def test_just_so(self):
        parts = (("claim", "c", ("same", "p0", "p0")),)
        self.fits(((), free_rows(400), parts), 400)
        self.is_too_great(((), free_rows(401), parts), 401, "p0", "c")

    def test_just_so_by_uses(self):
        # 20 steps, used 20 times: with a use of one step more it is too great.
        way = ("w", (), free_rows(20), "p7")
        uses = tuple([("p%d" % k, ("use", "w", ())) for k in range(20)])
        parts = (("claim", "c", ("same", "p0", "p0")),)
        sheet = ((way,), uses, parts)
        self.fits(sheet, 400)
        self.assertEqual(places_of(sheet), tuple(range(7, 400, 20)))
        self.is_too_great(((way,), uses + (("q", ("free",)),), parts), 401, "p3", "c")

    def test_just_so_by_one_use(self):
        small = ("v", (), free_rows(20), "p7")
        great = ("w", (), tuple([("p%d" % k, ("use", "v", ())) for k in range(20)]), "p3")
        parts = (("claim", "c", ("same", "q", "q")),)
        sheet = ((small, great), (("q", ("use", "w", ())),), parts)
        self.fits(sheet, 400)
        self.assertEqual(places_of(sheet), (67,))
        self.is_too_great(put(sheet, (0, 0, 2), free_rows(21)), 420, "q", "c")

    def test_a_use_that_makes_nothing_more(self):
        rows = free_rows(400) + (("q", ("use", "none", ("p3", "p7"))),)
        sheet = ((NONE,), rows, ())
        self.fits(sheet, 400)
        self.assertEqual(place_named(sheet, "q"), 7)

    def test_a_chain_with_steps(self):
        first = (("b", ("quarter", "a", "a")),)
        ways = chain(30, first, "b")
        self.fits(used_once(ways, "w8"), 257)
        self.is_too_great(used_once(ways, "w9"), 513, "p", "c")
        self.is_too_great(used_once(ways, "w29"), 2 ** 29 + 1, "q", "c")

    def test_a_chain_in_order(self):
        sheet = used_once(chain(9, (("b", ("quarter", "a", "a")),), "b"), "w8")
        expected = (("at", 1, 2),) + tuple([("quarter", k, k) for k in range(256)])
        self.assertEqual(figure_of(sheet), expected)
        self.assertEqual(places_of(sheet), (0, 256))
        self.assertEqual(claim_laid(sheet, "c"), ("same", 0, 256))

    def test_a_chain_without_steps(self):
        sheet = used_once(chain(30, (), "a"), "w29")
        self.fits(sheet, 1)
        self.assertEqual(places_of(sheet), (0, 0))
        self.assertEqual(claim_laid(sheet, "c"), ("same", 0, 0))

    def test_wide_ways_without_steps(self):
        ways = [("w0", ("a", "b"), (), "b")]
        for k in range(1, 30):
            before = "w%d" % (k - 1)
            rows = [("r0", ("use", before, ("b", "a")))]
            for n in range(1, 60):
                rows.append(("r%d" % n, ("use", before, ("a", "r%d" % (n - 1)))))
            ways.append(("w%d" % k, ("a", "b"), tuple(rows), "r59"))
        rows = (("p", ("free",)), ("q", ("free",)), ("r", ("use", "w29", ("p", "q"))))
        sheet = (tuple(ways), rows, ())
        self.fits(sheet, 2)
        self.assertEqual(place_named(sheet, "r"), 0)

    def test_the_greatest_chain(self):
        ways = [("w0", ("a",), tuple([("r%d" % n, ("on", "a", "a")) for n in range(60)]), "r0")]
        for k in range(1, 30):
            rows = [("r%d" % n, ("use", "w%d" % (k - 1), ("a",))) for n in range(60)]
            ways.append(("w%d" % k, ("a",), tuple(rows), "r59"))
        self.is_too_great(used_once(tuple(ways), "w29"), 60 ** 30 + 1, "p", "c")

    def test_great_ways_that_are_not_used(self):
        ways = chain(30, (("b", ("free",)),), "b")
        self.fits(used_once(ways, "w3"), 9)
        self.fits((ways, (), ()), 0)

    def test_unknown_names_first(self):
        small = used_once(chain(3, (("b", ("free",)),), "b"), "w1")
        great = used_once(chain(30, (("b", ("free",)),), "b"), "w29")
        for sheet in [small, great]:
            for name in ["c", "x", "b", "w1"] + OTHER_KINDS + [("p",), ["p"], {"p": 0}]:
                error = raised(place_named, sheet, name)
                self.assertIs(type(error), UnknownName)
                self.assertIs(error.name, name)
            for name in ["p", "d", "x", "w1"] + OTHER_KINDS + [("c",), ["c"], {"c": 0}]:
                error = raised(claim_laid, sheet, name)
                self.assertIs(type(error), UnknownName)
                self.assertIs(error.name, name)
