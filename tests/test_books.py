import random
import unittest
from itertools import combinations

from figureclaims.books import book, book_claims, list_claims, list_reach, news, shows
from figureclaims.errors import TooGreat
from figureclaims.reaches import reach_of, size_of
from figureclaims.settling import always, common_position, settle
from tests.drawn import POINTS, some_figure
from tests.helpers import raised
from tests.test_coordinates import step_of

# The document's example.
Q = (("at", 0, 0), ("at", 1, 0), ("free",), ("part", 0, 1, 1, 2), ("part", 1, 2, 1, 2), ("part", 0, 2, 1, 2))

# The corners of a square, its middle twice, a point 6 with 0 in the middle of 1 and it, and the corner 3 again.
SQUARE = (("at", 0, 0), ("free",), ("quarter", 0, 1), ("shift", 0, 1, 2), ("part", 0, 3, 1, 2),
          ("meet", 0, 3, 1, 2), ("shift", 1, 0, 0), ("shift", 0, 2, 1))

# The meet of a line with itself can never be done.
NEVER = (("at", 0, 0), ("at", 1, 0), ("free",), ("meet", 0, 1, 1, 0), ("part", 0, 1, 1, 2))

KINDS = {"same": 2, "line": 3, "circle": 4, "parallel": 4, "upright": 4, "long": 4}


def listed(n):
    """The list claims of n points, by their own loops."""
    claims = [("same", a, b) for a in range(n) for b in range(a + 1, n)]
    claims += [("line", a, b, c) for a in range(n) for b in range(a + 1, n) for c in range(b + 1, n)]
    claims += [
        ("circle", a, b, c, d)
        for a in range(n) for b in range(a + 1, n) for c in range(b + 1, n) for d in range(c + 1, n)
    ]
    for word in ("parallel", "upright", "long"):
        for a in range(n):
            for b in range(a + 1, n):
                for c in range(n):
                    for d in range(c + 1, n):
                        if (a, b) < (c, d):
                            claims.append((word, a, b, c, d))
    return claims


def greatest(members, many, fits):
    """The ascending tuples of so many members at least that fit, to which no other one can be put."""
    found = []
    for size in range(many, len(members) + 1):
        found += [some for some in combinations(members, size) if fits(some)]
    return tuple([some for some in sorted(found) if not any([
        set(some) < set(other) for other in found
    ])])


def lots(members, alike):
    found = [tuple([other for other in members if other == one or alike(one, other)]) for one in members]
    return tuple(sorted(set(found)))


def by_the_document(figure):
    """The book of a figure by S7.2 to S7.5, each claim being settled with the grid's polynomials."""
    claims = listed(len(figure))
    answer = settle(figure, ("same", 0, 0))
    if answer[0] == "never":
        return answer
    hold = {claims[k]: True for k in always(figure, claims)}

    def holds(word, *points):
        return (word,) + points in hold

    classes = lots(range(len(figure)), lambda a, b: holds("same", min(a, b), max(a, b)))
    chosen = [points[0] for points in classes]
    lines = greatest(chosen, 3, lambda some: all([holds("line", *three) for three in combinations(some, 3)]))
    circles = greatest(chosen, 4, lambda some: (
        all([holds("circle", *four) for four in combinations(some, 4)])
        and not any([holds("line", *three) for three in combinations(some, 3)])
    ))
    pairs = list(combinations(chosen, 2))
    directions = lots(pairs, lambda one, other: holds("parallel", *min(one, other), *max(one, other)))
    lengths = lots(pairs, lambda one, other: holds("long", *min(one, other), *max(one, other)))
    uprights = tuple([
        (k, m) for k in range(len(directions)) for m in range(k + 1, len(directions))
        if all([holds("upright", *min(one, other), *max(one, other)) for one in directions[k] for other in directions[m]])
    ])
    return "book", classes, lines, circles, directions, uprights, lengths


def drawn_figures(source, many, points):
    """Figures of points many of which are at places of a small grid, so that much holds."""
    found = []
    while len(found) < many:
        figure = [("free",)] if source.random() < 0.5 else []
        while len(figure) < points:
            if source.random() < 0.6 or len(figure) < 4:
                figure.append(("at", source.randrange(3), source.randrange(3)))
            else:
                figure.append(step_of(source, source.choice(list(POINTS)), len(figure)))
        figure = tuple(figure)
        if size_of(list_reach(figure)) <= 20000 and raised(always, figure, listed(points)) is None:
            found.append(figure)
    return found


class ListTest(unittest.TestCase):
    def test_few_points(self):
        self.assertEqual(list_claims(()), [])
        self.assertEqual(list_claims(Q[:1]), [])
        self.assertEqual(list_claims(Q[:2]), [("same", 0, 1)])
        self.assertEqual(list_claims(Q[:3]), [
            ("same", 0, 1), ("same", 0, 2), ("same", 1, 2), ("line", 0, 1, 2),
            ("parallel", 0, 1, 0, 2), ("parallel", 0, 1, 1, 2), ("parallel", 0, 2, 1, 2),
            ("upright", 0, 1, 0, 2), ("upright", 0, 1, 1, 2), ("upright", 0, 2, 1, 2),
            ("long", 0, 1, 0, 2), ("long", 0, 1, 1, 2), ("long", 0, 2, 1, 2),
        ])

    def test_the_sequence(self):
        for n in range(3, 10):
            claims = list_claims((("free",),) * n)
            self.assertEqual(claims, listed(n))
        self.assertEqual(len(claims), 36 + 84 + 126 + 3 * 630)
        self.assertIs(type(claims), list)

    def test_reach(self):
        self.assertEqual(list_reach(()), ((), 1))
        self.assertEqual(list_reach((("at", 5, -9),)), ((), 9))
        self.assertEqual(list_reach((("free",),)), ((1, 1), 1))
        self.assertEqual(list_reach((("free",), ("at", 3, 0))), ((1, 1), 6))
        self.assertEqual(list_reach(Q), reach_of(Q, list_claims(Q)))
        # Of points with one height a circle has the greatest one, else mostly a long.
        self.assertEqual(list_reach((("free",),) * 4), ((4,) * 8, 48))
        self.assertEqual(list_reach((("free",),) * 3), ((4,) * 6, 16))
        for heights in [(7, 7, 7, 7), (7, 7, 7, 1), (2, 7, 7, 5), (7, 4, 4, 4), (9, 5, 5, 5), (1, 8, 3, 5, 8), (3, 9, 9)]:
            figure = tuple([("at", height, 1) for height in heights])
            self.assertEqual(list_reach(figure), reach_of(figure, list_claims(figure)))

    def test_reach_of_drawn_figures(self):
        source = random.Random(229)
        for n in range(1, 9):
            for _ in range(20):
                figure = some_figure(source, n) if n > 3 else some_figure(source, 3)[-n:]
                self.assertEqual(list_reach(figure), reach_of(figure, list_claims(figure)), figure)


class BookTest(unittest.TestCase):
    def test_the_example(self):
        self.assertEqual(book(Q), (
            "book",
            ((0,), (1,), (2,), (3,), (4,), (5,)),
            ((0, 1, 3), (0, 2, 5), (1, 2, 4)),
            (),
            (
                ((0, 1), (0, 3), (1, 3), (4, 5)), ((0, 2), (0, 5), (2, 5), (3, 4)), ((0, 4),),
                ((1, 2), (1, 4), (2, 4), (3, 5)), ((1, 5),), ((2, 3),),
            ),
            (),
            (
                ((0, 1),), ((0, 2),), ((0, 3), (1, 3), (4, 5)), ((0, 4),), ((0, 5), (2, 5), (3, 4)), ((1, 2),),
                ((1, 4), (2, 4), (3, 5)), ((1, 5),), ((2, 3),),
            ),
        ))

    def test_doubled_points_circles_and_uprights(self):
        self.assertEqual(book(SQUARE), (
            "book",
            ((0,), (1,), (2,), (3, 7), (4, 5), (6,)),
            ((0, 1, 6), (0, 3, 4), (1, 2, 4)),
            ((0, 1, 2, 3),),
            (
                ((0, 1), (0, 6), (1, 6), (2, 3)), ((0, 2), (1, 3)), ((0, 3), (0, 4), (2, 6), (3, 4)),
                ((1, 2), (1, 4), (2, 4)), ((3, 6),), ((4, 6),),
            ),
            ((0, 1), (2, 3)),
            (
                ((0, 1), (0, 2), (0, 6), (1, 3), (2, 3)), ((0, 3), (1, 2), (2, 6)),
                ((0, 4), (1, 4), (2, 4), (3, 4)), ((1, 6),), ((3, 6),), ((4, 6),),
            ),
        ))
        self.assertEqual(book(SQUARE), by_the_document(SQUARE))

    def test_never(self):
        self.assertEqual(book(NEVER), ("never", 3))
        self.assertEqual(book(NEVER + (("foot", 0, 1, 1),)), ("never", 3))
        self.assertEqual(book((("at", 2, 2), ("foot", 0, 0, 0))), ("never", 1))

    def test_few_points(self):
        self.assertEqual(book(()), ("book", (), (), (), (), (), ()))
        self.assertEqual(book((("free",),)), ("book", ((0,),), (), (), (), (), ()))
        self.assertEqual(book(Q[:2]), ("book", ((0,), (1,)), (), (), (((0, 1),),), (), (((0, 1),),)))
        two = (("free",), ("part", 0, 0, 1, 2))
        self.assertEqual(book(two), ("book", ((0, 1),), (), (), (), (), ()))

    def test_as_the_document_tells(self):
        source = random.Random(233)
        seen = {}
        for figure in drawn_figures(source, 60, 6) + drawn_figures(source, 60, 5):
            told = book(figure)
            self.assertEqual(told, by_the_document(figure), figure)
            for k, part in enumerate(told):
                seen[told[0], k] = seen.get((told[0], k), 0) + (part != ())
        self.assertGreater(min([many for (word, _), many in seen.items() if word == "book"]), 10)
        self.assertGreater(seen["never", 0], 3)

    def test_longer_figures_tell_the_same_of_the_points_before(self):
        source = random.Random(239)
        for figure in drawn_figures(source, 60, 6):
            told, shorter = book(figure), book(figure[:5])
            if told[0] == "book":
                for claim in listed(5):
                    self.assertIs(shows(told, claim), shows(shorter, claim))

    def test_kinds_of_values(self):
        def is_plain(value):
            return type(value) is int or type(value) is tuple and all([is_plain(part) for part in value])
        self.assertTrue(is_plain(book(SQUARE)[1:]))
        self.assertIs(type(book(SQUARE)), tuple)
        self.assertIs(type(book(NEVER)), tuple)


class ShowsTest(unittest.TestCase):
    def test_by_hand(self):
        told = book(SQUARE)
        for claim in [
            ("same", 4, 5), ("same", 5, 4), ("same", 1, 1), ("same", 7, 3), ("line", 1, 0, 6), ("line", 5, 7, 0),
            ("line", 4, 2, 1), ("line", 2, 0, 2), ("line", 5, 1, 4), ("circle", 3, 1, 0, 2), ("circle", 2, 0, 7, 1),
            ("circle", 4, 0, 5, 6), ("circle", 0, 3, 1, 3), ("circle", 7, 1, 3, 6), ("parallel", 3, 2, 0, 6),
            ("parallel", 6, 1, 1, 0), ("parallel", 4, 5, 0, 2), ("parallel", 0, 6, 3, 7), ("parallel", 2, 1, 1, 2),
            ("parallel", 6, 2, 5, 7), ("upright", 0, 1, 2, 0), ("upright", 7, 0, 2, 1), ("upright", 4, 5, 4, 5),
            ("upright", 5, 0, 1, 4), ("upright", 2, 2, 0, 1), ("upright", 1, 4, 2, 6), ("long", 4, 0, 2, 5),
            ("long", 4, 5, 5, 4), ("long", 0, 0, 3, 7), ("long", 2, 0, 1, 7), ("long", 6, 0, 1, 0),
            ("long", 3, 1, 1, 3), ("long", 2, 6, 7, 0),
        ]:
            self.assertIs(shows(told, claim), True, claim)
        for claim in [
            ("same", 0, 1), ("same", 3, 5), ("line", 0, 1, 2), ("line", 6, 2, 5), ("circle", 0, 1, 2, 6),
            ("circle", 0, 1, 4, 2), ("parallel", 0, 1, 0, 2), ("parallel", 0, 3, 1, 2), ("upright", 0, 1, 0, 1),
            ("upright", 0, 1, 0, 3), ("upright", 3, 6, 4, 6), ("long", 4, 5, 0, 1), ("long", 0, 1, 4, 4),
            ("long", 0, 1, 0, 3), ("long", 4, 5, 3, 0),
        ]:
            self.assertIs(shows(told, claim), False, claim)

    def test_any_points_in_any_sequence(self):
        source = random.Random(241)
        seen = {}
        for figure in drawn_figures(source, 60, 5):
            told = book(figure)
            if told[0] == "never":
                continue
            for word, many in KINDS.items():
                for _ in range(25):
                    claim = (word,) + tuple([source.randrange(5) for _ in range(many)])
                    whether = settle(figure, claim) == ("always",)
                    self.assertIs(shows(told, claim), whether, (figure, claim))
                    seen[word, whether, len(set(claim)) == len(claim)] = True
        # Claims of the first three kinds about alike points hold.
        self.assertEqual(len(seen), 4 * len(KINDS) - 3)


class NewsTest(unittest.TestCase):
    def test_the_example(self):
        self.assertEqual(news(Q, 3), ("new", ((0, 1, 3),), (), ((0, 3), (1, 3))))

    def test_each_step(self):
        self.assertEqual(news(Q, 0), ("new", (), (), ()))
        self.assertEqual(news(Q, 1), ("new", (), (), ()))
        self.assertEqual(news(Q, 2), ("new", (), (), ()))
        self.assertEqual(news(Q, 4), ("new", ((1, 2, 4),), (), ((1, 4), (2, 4), (3, 4))))
        self.assertEqual(
            news(Q, 5),
            ("new", ((0, 2, 5),), (), ((0, 5), (2, 5), (3, 5), (4, 5))),
        )

    def test_circles(self):
        # The pairs (0, 2) and (0, 1) are of one length; the last corner makes all sides so.
        self.assertEqual(news(SQUARE, 2), ("new", (), (), ((0, 2),)))
        self.assertEqual(news(SQUARE, 3), ("new", (), ((0, 1, 2, 3),), ((0, 3), (1, 3), (2, 3))))
        self.assertEqual(news(SQUARE, 6), ("new", ((0, 1, 6),), (), ((0, 6), (1, 6), (2, 6))))

    def test_doubled_points(self):
        self.assertEqual(news(SQUARE, 5), ("same", 4))
        self.assertEqual(news(SQUARE, 7), ("same", 3))
        self.assertEqual(news((("at", 1, 1),) + (("part", 0, 0, 1, 2),) * 3, 3), ("same", 0))
        self.assertEqual(news((("at", 0, 5), ("free",), ("shift", 0, 0, 1), ("part", 2, 2, 1, 3)), 3), ("same", 1))

    def test_pairs_that_uprights_alone_are_about_do_not_count(self):
        # The line from 0 to 4 is upright to that of 0 and 1, and parallel to that of 2 and 3.
        figure = (("at", 0, 0), ("at", 4, 0), ("free",), ("foot", 2, 0, 1), ("at", 0, 7))
        self.assertEqual(news(figure, 4), ("new", (), (), ((0, 4),)))
        square = (("at", 0, 0), ("at", 2, 1), ("at", -3, 6))
        self.assertEqual(book(square)[5], ((0, 1),))
        self.assertEqual(news(square, 2), ("new", (), (), ()))

    def test_never(self):
        self.assertEqual(news(NEVER, 2)[0], "new")
        self.assertEqual(news(NEVER, 3), ("never", 3))
        self.assertEqual(news(NEVER, 4), ("never", 3))

    def test_pairs_of_one_lot_of_two(self):
        # A lot of (0, 1) and (2, 3) alone: the pair (2, 3) is told, though 3 is in no other one.
        figure = (("at", 0, 0), ("at", 1, 5), ("free",), ("shift", 0, 1, 2))
        self.assertEqual(news(figure, 3), ("new", (), (), ((1, 3), (2, 3))))

    def test_as_the_book_of_the_first_steps_tells(self):
        source = random.Random(251)
        for figure in drawn_figures(source, 60, 6):
            for k in range(6):
                told = by_the_document(figure[:k + 1])
                expected = told
                if told[0] == "book":
                    first = [points[0] for points in told[1] if k in points][0]
                    lots_told = [lot for lot in told[4] + told[6] if len(lot) > 1]
                    expected = ("same", first) if first < k else (
                        "new",
                        tuple([line for line in told[2] if k in line]),
                        tuple([circle for circle in told[3] if k in circle]),
                        tuple(sorted({pair for lot in lots_told for pair in lot if k in pair})),
                    )
                self.assertEqual(news(figure, k), expected, (figure, k))


class BookClaimsTest(unittest.TestCase):
    def test_the_example(self):
        self.assertEqual(book_claims(book(Q)), [
            ("line", 0, 1, 3), ("line", 0, 2, 5), ("line", 1, 2, 4),
            ("parallel", 0, 1, 0, 3), ("parallel", 0, 1, 1, 3), ("parallel", 0, 1, 4, 5),
            ("parallel", 0, 2, 0, 5), ("parallel", 0, 2, 2, 5), ("parallel", 0, 2, 3, 4),
            ("parallel", 1, 2, 1, 4), ("parallel", 1, 2, 2, 4), ("parallel", 1, 2, 3, 5),
            ("long", 0, 3, 1, 3), ("long", 0, 3, 4, 5), ("long", 0, 5, 2, 5), ("long", 0, 5, 3, 4),
            ("long", 1, 4, 2, 4), ("long", 1, 4, 3, 5),
        ])

    def test_each_kind(self):
        told = (
            "book", ((0, 3, 5), (1,), (2, 4)), ((0, 1, 2, 6, 7),), ((0, 1, 8, 9, 10),),
            (((0, 1), (0, 2), (6, 7)), ((0, 8), (1, 9))), ((0, 1),), (((0, 1), (8, 9)), ((0, 2),)),
        )
        self.assertEqual(book_claims(told), [
            ("same", 0, 3), ("same", 0, 5), ("same", 2, 4),
            ("line", 0, 1, 2), ("line", 0, 1, 6), ("line", 0, 1, 7),
            ("circle", 0, 1, 8, 9), ("circle", 0, 1, 8, 10),
            ("parallel", 0, 1, 0, 2), ("parallel", 0, 1, 6, 7), ("parallel", 0, 8, 1, 9),
            ("upright", 0, 1, 0, 8), ("long", 0, 1, 8, 9),
        ])

    def test_they_hold_and_tell_the_book(self):
        source = random.Random(257)
        books = {}
        for figure in drawn_figures(source, 80, 5):
            told = book(figure)
            if told[0] == "book":
                claims = book_claims(told)
                self.assertEqual(always(figure, claims), list(range(len(claims))))
                self.assertEqual(books.setdefault(tuple(claims), told), told)
        self.assertGreater(len(books), 20)
        self.assertEqual(len(set(books.values())), len(books))

    def test_no_points(self):
        self.assertEqual(book_claims(book(())), [])
        self.assertIs(type(book_claims(book(()))), list)


class LimitsTest(unittest.TestCase):
    def is_too_great(self, call, *told):
        self.assertIs(type(raised(call, *told)), TooGreat)

    def test_at_the_size_and_above(self):
        # A free point and one on its line to 0: the long claims have the degree (6, 6, 2).
        heights = {}
        for x in range(1, 400):
            figure = (("at", x, 1), ("free",), ("on", 0, 1), ("mirror", 0, 1, 2))
            heights.setdefault(size_of(list_reach(figure)), figure)
        sizes = sorted(heights)
        for size in sizes:
            if size > 60000:
                self.is_too_great(book, heights[size])
                self.is_too_great(news, heights[size], 3)
                self.assertEqual(news(heights[size], 2)[0], "new")
            else:
                self.assertIn(book(heights[size])[0], ("book", "never"))

    def test_just_at_the_size(self):
        # No parameters: the size is how many binary figures 16 * x ** 4 + 1 has.
        for x, size in [(2 ** 14998, 59997), (2 ** 14999 - 1, 60000), (2 ** 14999, 60001)]:
            figure = (("at", 0, 0), ("at", x, 0), ("at", 0, 1))
            self.assertEqual(size_of(list_reach(figure)), size)
            if size > 60000:
                self.is_too_great(book, figure)
                self.is_too_great(news, figure, 2)
                self.assertEqual(news(figure, 1), ("new", (), (), ()))
            else:
                self.assertEqual(book(figure)[0], "book")
                self.assertEqual(news(figure, 2), ("new", (), (), ()))

    def test_ahead_of_all_else(self):
        figure = NEVER + (("free",), ("inverse", 5, 2, 0), ("inverse", 6, 5, 2))
        self.assertGreater(size_of(list_reach(figure)), 60000)
        self.is_too_great(book, figure)
        self.is_too_great(news, figure, 7)
        self.assertEqual(news(figure, 4), ("never", 3))

    def test_heights_that_would_take_long(self):
        figure = (("at", 10 ** 6, 1), ("at", 5, 10 ** 6), ("at", 7, 7))
        figure = figure + tuple([("middle", n - 1, n - 2, n - 1) for n in range(3, 12)])
        self.is_too_great(book, figure)
        self.is_too_great(news, figure, 11)

    def test_nine_points_of_nearly_the_size(self):
        source = random.Random(263)
        found = []
        while len(found) < 12:
            figure = some_figure(source, 9)
            if 45000 < size_of(list_reach(figure)) <= 60000 and raised(common_position, figure, ()) is None:
                if common_position(figure, ()) is not None:
                    found.append(figure)
        for figure in found:
            told = book(figure)
            claims = book_claims(told)
            self.assertEqual(always(figure, claims), list(range(len(claims))))
            for claim in source.sample(list_claims(figure), 200):
                if raised(settle, figure, claim) is None:
                    self.assertIs(shows(told, claim), settle(figure, claim) == ("always",))
