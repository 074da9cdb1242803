import random
import unittest
from fractions import Fraction

from figureclaims.building import holds, made
from figureclaims.coordinates import claim_polynomials, point_triples, triple_of
from figureclaims.errors import TooGreat
from figureclaims.figures import check_claim, check_figure, parameters_of
from figureclaims.polynomials import check_polynomial, degrees_of, height_of, value_at
from figureclaims.table import claim_degree, claim_height, point_degrees, point_heights, terms
from tests.drawn import CLAIMS, INTEGERS, PARAMETERS, POINTS, some_figure, some_position
from tests.helpers import raised
from tests.polys import Poly, unknown_of

T = (("at", 0, 0), ("at", 4, 0), ("free",), ("foot", 2, 0, 1))


# The tables of S4.2 and S4.4 as they stand there, with Poly.

def pair(a, b):
    return b[0] * a[2] - a[0] * b[2], b[1] * a[2] - a[1] * b[2]


def line(a, b):
    return a[1] * b[2] - a[2] * b[1], a[2] * b[0] - a[0] * b[2], a[0] * b[1] - a[1] * b[0]


def cross(q, r):
    return q[0] * r[1] - q[1] * r[0]


def dot(q, r):
    return q[0] * r[0] + q[1] * r[1]


def det(a, b, c):
    return (
        a[0] * (b[1] * c[2] - b[2] * c[1]) - a[1] * (b[0] * c[2] - b[2] * c[0])
        + a[2] * (b[0] * c[1] - b[1] * c[0])
    )


def on(a, b, t):
    q = pair(a, b)
    return a[0] * b[2] + t * q[0], a[1] * b[2] + t * q[1], a[2] * b[2]


def around(a, b, t):
    q = pair(a, b)
    one, less = t * t + 1, 1 - t * t
    return (
        a[0] * b[2] * one + less * q[0] - 2 * t * q[1],
        a[1] * b[2] * one + less * q[1] + 2 * t * q[0],
        a[2] * b[2] * one,
    )


def part(a, b, s, k):
    q = pair(a, b)
    return k * a[0] * b[2] + s * q[0], k * a[1] * b[2] + s * q[1], k * a[2] * b[2]


def quarter(a, b):
    q = pair(a, b)
    return a[0] * b[2] - q[1], a[1] * b[2] + q[0], a[2] * b[2]


def shift(a, b, c):
    q = pair(a, b)
    w = a[2] * b[2]
    return c[0] * w + c[2] * q[0], c[1] * w + c[2] * q[1], w * c[2]


def meet(a, b, c, d):
    k, m = line(a, b), line(c, d)
    return k[1] * m[2] - k[2] * m[1], k[2] * m[0] - k[0] * m[2], k[0] * m[1] - k[1] * m[0]


def towards(p, a, b, times):
    k = line(a, b)
    n = k[0] * k[0] + k[1] * k[1]
    kp = k[0] * p[0] + k[1] * p[1] + k[2] * p[2]
    return n * p[0] - times * k[0] * kp, n * p[1] - times * k[1] * kp, n * p[2]


def middle(a, b, c):
    s, t, u = [p[0] * p[0] + p[1] * p[1] for p in (a, b, c)]
    x = (
        s * (b[1] * c[2] - c[1] * b[2]) * b[2] * c[2] + t * (c[1] * a[2] - a[1] * c[2]) * c[2] * a[2]
        + u * (a[1] * b[2] - b[1] * a[2]) * a[2] * b[2]
    )
    y = (
        s * (c[0] * b[2] - b[0] * c[2]) * b[2] * c[2] + t * (a[0] * c[2] - c[0] * a[2]) * c[2] * a[2]
        + u * (b[0] * a[2] - a[0] * b[2]) * a[2] * b[2]
    )
    w = (
        a[0] * (b[1] * c[2] - c[1] * b[2]) + b[0] * (c[1] * a[2] - a[1] * c[2])
        + c[0] * (a[1] * b[2] - b[1] * a[2])
    )
    return x, y, 2 * a[2] * b[2] * c[2] * w


def other(a, b, m):
    q, r = pair(a, b), pair(a, m)
    qq, rq = dot(q, q), dot(r, q)
    return a[0] * qq * m[2] + 2 * rq * q[0], a[1] * qq * m[2] + 2 * rq * q[1], qq * a[2] * m[2]


def inverse(p, m, a):
    q, r = pair(m, p), pair(m, a)
    qq, rr = dot(q, q), dot(r, r)
    aq = a[2] * a[2] * qq
    return m[0] * aq + rr * p[2] * q[0], m[1] * aq + rr * p[2] * q[1], m[2] * aq


STEPS = {
    "at": lambda x, y: (x, y, 1), "free": lambda u, v: (u, v, 1), "on": on, "round": around,
    "part": part, "quarter": quarter, "shift": shift, "meet": meet,
    "foot": lambda p, a, b: towards(p, a, b, 1), "mirror": lambda p, a, b: towards(p, a, b, 2),
    "middle": middle, "other": other, "second": lambda a, m, n: towards(a, m, n, 2), "inverse": inverse,
}


def circle_of(*points):
    """The determinant of four rows, along the first column again and again."""
    def determinant(rows):
        if len(rows) == 1:
            return rows[0][0]
        total = 0
        for k, row in enumerate(rows):
            rest = [other_row[1:] for j, other_row in enumerate(rows) if j != k]
            total = total + (-1) ** k * row[0] * determinant(rest)
        return total
    return determinant([(x * x + y * y, x * w, y * w, w * w) for x, y, w in points])


def long_of(a, b, c, d):
    q, r = pair(a, b), pair(c, d)
    return dot(q, q) * c[2] * c[2] * d[2] * d[2] - dot(r, r) * a[2] * a[2] * b[2] * b[2]


def ratio_of(a, b, c, d, e, f, g, h):
    squares = [dot(q, q) for q in (pair(a, b), pair(c, d), pair(e, f), pair(g, h))]
    one, other_one = a[2] * b[2] * c[2] * d[2], e[2] * f[2] * g[2] * h[2]
    return squares[0] * squares[1] * other_one * other_one - squares[2] * squares[3] * one * one


def area_of(a, b, c, d, e, f):
    return det(a, b, c) * d[2] * e[2] * f[2] - det(d, e, f) * a[2] * b[2] * c[2]


def angle_of(a, b, c, d, e, f):
    q, r, s, k = pair(b, a), pair(b, c), pair(e, d), pair(e, f)
    return cross(q, r) * dot(s, k) - dot(q, r) * cross(s, k)


SAID = {
    "same": pair, "line": lambda a, b, c: (det(a, b, c),), "circle": lambda *told: (circle_of(*told),),
    "parallel": lambda a, b, c, d: (cross(pair(a, b), pair(c, d)),),
    "upright": lambda a, b, c, d: (dot(pair(a, b), pair(c, d)),),
    "long": lambda *told: (long_of(*told),), "ratio": lambda *told: (ratio_of(*told),),
    "area": lambda *told: (area_of(*told),), "angle": lambda *told: (angle_of(*told),),
}


def triples_by_the_table(figure):
    m, first, triples = parameters_of(figure), 0, []
    for word, *rest in figure:
        points = [triples[p] for p in rest[:POINTS[word]]]
        own = [unknown_of(m, k) for k in range(first, first + PARAMETERS.get(word, 0))]
        first += len(own)
        triple = STEPS[word](*points, *rest[POINTS[word]:], *own)
        triples.append([Poly(m) + p for p in triple])
    return triples


def told(polys):
    return tuple([p.told() for p in polys])


def drawn_figure(source, word, behind=2):
    """A figure in which a step with a word stands on steps of other sorts."""
    figure = [("free",), ("at", 3, -2), ("at", 1, 5), ("at", -4, 1)]
    while len(figure) < 4 + behind:
        other_word = source.choice(["on", "round", "part", "quarter", "shift", "foot", "meet"])
        figure.append(step_of(source, other_word, len(figure)))
    return tuple(figure) + (step_of(source, word, len(figure)),)


def step_of(source, word, many):
    points = tuple(source.sample(range(many), POINTS[word]))
    integers = (source.randrange(-5, 6), source.randrange(1, 6)) if word in INTEGERS else ()
    return (word,) + points + integers


class TriplesTest(unittest.TestCase):
    def test_the_example(self):
        triples = point_triples(T)
        self.assertEqual(triples[3], ((((1, 0), 16),), (), (((0, 0), 16),)))
        self.assertEqual(triples[2], ((((1, 0), 1),), (((0, 1), 1),), (((0, 0), 1),)))
        self.assertEqual(triples[1], ((((0, 0), 4),), (), (((0, 0), 1),)))
        self.assertEqual(triples[0], ((), (), (((0, 0), 1),)))
        self.assertEqual(triple_of(T, 3), triples[3])

    def test_nothing(self):
        self.assertEqual(point_triples(()), [])

    def test_parameters_of_the_whole_figure(self):
        figure = (("at", 1, 2), ("free",), ("on", 0, 1), ("free",))
        triples = point_triples(figure)
        self.assertEqual(triples[0], ((((0,) * 5, 1),), (((0,) * 5, 2),), (((0,) * 5, 1),)))
        self.assertEqual(triples[3], ((((0, 0, 0, 1, 0), 1),), (((0, 0, 0, 0, 1), 1),), (((0,) * 5, 1),)))
        self.assertEqual(triples[2][0], (((0, 0, 0, 0, 0), 1), ((0, 0, 1, 0, 0), -1), ((1, 0, 1, 0, 0), 1)))

    def test_each_word(self):
        source = random.Random(127)
        for word in POINTS:
            for _ in range(12):
                figure = drawn_figure(source, word)
                check_figure(figure)
                expected = [told(triple) for triple in triples_by_the_table(figure)]
                self.assertEqual(point_triples(figure), expected, figure)

    def test_points_that_are_named_twice(self):
        source = random.Random(131)
        for _ in range(120):
            figure = some_figure(source, 6)
            if max([terms(degree) for degree in point_degrees(figure)]) <= 400:
                expected = [told(triple) for triple in triples_by_the_table(figure)]
                self.assertEqual(point_triples(figure), expected, figure)
                k = source.randrange(len(figure))
                self.assertEqual(triple_of(figure, k), expected[k])

    def test_nothing_is_divided_out(self):
        figure = (("at", 0, 0), ("at", 6, 0), ("part", 0, 1, 2, 4), ("part", 0, 2, 1, 1), ("meet", 1, 0, 1, 2))
        self.assertEqual(point_triples(figure)[2], ((((), 12),), (), (((), 4),)))
        self.assertEqual(point_triples(figure)[3], ((((), 12),), (), (((), 4),)))
        self.assertEqual(point_triples(figure)[4], ((), (), ()))
        figure = (("at", 0, 0), ("at", 2, 0), ("at", 0, 1), ("at", 1, 1), ("meet", 0, 2, 1, 3), ("meet", 2, 0, 1, 3))
        self.assertEqual(point_triples(figure)[4], ((), (((), 2),), (((), 1),)))
        self.assertEqual(point_triples(figure)[5], ((), (((), -2),), (((), -1),)))

    def test_at_drawn_positions(self):
        source = random.Random(137)
        broken = 0
        for _ in range(250):
            figure = some_figure(source, source.randrange(3, 7))
            if max([terms(degree) for degree in point_degrees(figure)]) > 2500:
                continue
            position = some_position(source, figure)
            places = made(figure, position)
            triples = point_triples(figure)
            for k, triple in enumerate(triples[:len(places) + 1]):
                x, y, w = [Fraction(*value_at(p, position)) for p in triple]
                self.assertEqual(w != 0, k < len(places))
                if w != 0:
                    self.assertEqual((x / w, y / w), tuple([Fraction(*number) for number in places[k]]))
            broken += len(places) < len(figure)
        self.assertGreater(broken, 50)

    def test_degrees_and_heights(self):
        source = random.Random(139)
        for _ in range(100):
            figure = some_figure(source, 6)
            m = parameters_of(figure)
            degrees, heights = point_degrees(figure), point_heights(figure)
            if max([terms(degree) for degree in degrees]) <= 2500:
                for triple, degree, height in zip(point_triples(figure), degrees, heights):
                    for p in triple:
                        self.assertIsNone(check_polynomial(m, p))
                        self.assertTrue(all([d <= e for d, e in zip(degrees_of(m, p), degree)]))
                        self.assertLessEqual(height_of(p), height)

    def test_behind_a_step_that_can_never_be_done(self):
        # The point 3 is on the line of 0 and 1, so the lines of the meet are one.
        figure = (("at", 0, 0), ("at", 1, 0), ("free",), ("on", 0, 1), ("meet", 0, 1, 0, 3),
                  ("foot", 2, 0, 4), ("part", 2, 1, 1, 2), ("on", 4, 2), ("middle", 4, 5, 2))
        triples = point_triples(figure)
        self.assertEqual(triples, [told(triple) for triple in triples_by_the_table(figure)])
        self.assertEqual(triples[4], ((), (), ()))
        self.assertTrue(triples[6][2])
        # The middle of three points on one line: its W alone is nought.
        figure = (("at", 1, 2), ("free",), ("part", 0, 1, 1, 2), ("middle", 0, 2, 1), ("on", 3, 1), ("shift", 0, 1, 3))
        triples = point_triples(figure)
        self.assertEqual(triples, [told(triple) for triple in triples_by_the_table(figure)])
        self.assertEqual(triples[3][2], ())
        self.assertTrue(triples[3][0])
        self.assertTrue(triples[4][0])

    def test_new_lists(self):
        self.assertEqual([type(point_triples(T)), type(point_triples(T)[0])], [list, tuple])
        self.assertIsNot(point_triples(T), point_triples(T))


class ClaimsTest(unittest.TestCase):
    def test_the_examples(self):
        self.assertEqual(claim_polynomials(T, ("upright", 2, 3, 0, 1)), ((),))
        self.assertEqual(claim_polynomials(T, ("same", 2, 3)), ((), (((0, 1), -16),)))
        circle = (((0, 0), 16), ((0, 2), -1), ((2, 0), -1))
        self.assertEqual(claim_polynomials(T, ("long", 0, 1, 0, 2)), (circle,))
        figure = (("at", 0, 0), ("at", 1, 0), ("at", 0, 1), ("at", 2, 2))
        self.assertEqual(claim_polynomials(figure, ("circle", 0, 1, 2, 3)), ((((), -4),),))
        self.assertEqual(claim_polynomials(figure, ("ratio", 0, 1, 0, 2, 0, 3, 0, 1)), ((((), -7),),))
        self.assertEqual(claim_polynomials(figure, ("area", 0, 1, 2, 0, 2, 3)), ((((), 3),),))
        self.assertEqual(claim_polynomials(figure, ("angle", 1, 0, 2, 1, 0, 3)), ((((), 2),),))

    def test_each_word(self):
        source = random.Random(149)
        for word, (many, _) in CLAIMS.items():
            for k in range(12):
                figure = drawn_figure(source, source.choice(["part", "on", "quarter"]), 1 if k % 2 else 0)
                claim = (word,) + tuple([source.randrange(len(figure)) for _ in range(many)])
                triples = triples_by_the_table(figure)
                expected = told(SAID[word](*[triples[p] for p in claim[1:]]))
                said = claim_polynomials(figure, claim)
                self.assertEqual(said, expected, (figure, claim))
                self.assertIs(type(said), tuple)

    def test_behind_a_step_that_can_never_be_done(self):
        figure = (("at", 1, 2), ("free",), ("part", 0, 1, 1, 2), ("middle", 0, 2, 1), ("on", 3, 1), ("at", 5, 5))
        triples = triples_by_the_table(figure)
        for claim in (("circle", 0, 1, 3, 5), ("same", 3, 4), ("area", 0, 3, 1, 4, 5, 2), ("circle", 3, 0, 1, 5)):
            expected = told(SAID[claim[0]](*[triples[p] for p in claim[1:]]))
            self.assertEqual(claim_polynomials(figure, claim), expected)

    def test_hold_just_where_all_are_nought(self):
        source = random.Random(151)
        seen = {}
        for _ in range(500):
            figure = some_figure(source, source.randrange(3, 6))
            word = source.choice(list(CLAIMS))
            claim = (word,) + tuple([source.randrange(len(figure)) for _ in range(CLAIMS[word][0])])
            check_claim(figure, claim)
            degrees = point_degrees(figure) + [claim_degree(figure, claim)]
            position = some_position(source, figure)
            places = made(figure, position)
            if max([terms(degree) for degree in degrees]) > 2000 or len(places) < len(figure):
                continue
            said = claim_polynomials(figure, claim)
            whether = all([value_at(p, position) == (0, 1) for p in said])
            self.assertIs(holds(places, claim), whether, (figure, claim, position))
            m = parameters_of(figure)
            for p in said:
                self.assertTrue(all([d <= e for d, e in zip(degrees_of(m, p), claim_degree(figure, claim))]))
                self.assertLessEqual(height_of(p), claim_height(figure, claim))
            seen[word, whether] = True
        self.assertGreater(len(seen), 15)


def with_degrees(*wanted):
    """A figure whose last point has these degrees, by points that stand on others so often."""
    figure = [("at", 0, 0), ("at", 1, 0)]
    ends = []
    for number in wanted:
        figure.append(("on", 0, 1))
        power, end = len(figure) - 1, None
        for k, binary in enumerate(reversed(f"{number:b}")):
            if k > 0:
                figure.append(("quarter", power, power))
                power = len(figure) - 1
            if binary == "1" and end is not None:
                figure.append(("quarter", end, power))
            if binary == "1":
                end = power if end is None else len(figure) - 1
        ends.append(end)
    last = ends[0]
    for end in ends[1:]:
        figure.append(("quarter", last, end))
        last = len(figure) - 1
    return tuple(figure)


class TooGreatTest(unittest.TestCase):
    def is_too_great(self, call, *arguments):
        self.assertIs(type(raised(call, *arguments)), TooGreat)

    def test_figures(self):
        figure = with_degrees(199, 99)
        self.assertEqual(point_degrees(figure)[-1], (199, 99))
        self.assertEqual(len(point_triples(figure)), len(figure))
        self.assertEqual(triple_of(figure, len(figure) - 1)[2], (((0, 0), 1),))
        self.assertEqual(claim_polynomials(figure, ("same", 0, 1)), ((((0, 0), 1),), ()))
        figure = with_degrees(199, 101)
        self.assertEqual(terms(point_degrees(figure)[-1]), 20400)
        self.is_too_great(point_triples, figure)
        self.is_too_great(triple_of, figure, 0)
        self.is_too_great(triple_of, figure, len(figure) - 1)
        self.is_too_great(claim_polynomials, figure, ("same", 0, 1))

    def test_any_point_that_is_too_great(self):
        figure = with_degrees(199, 101) + (("at", 5, 5),)
        self.is_too_great(point_triples, figure)
        self.is_too_great(triple_of, figure, len(figure) - 1)
        self.is_too_great(claim_polynomials, figure, ("same", 0, 1))

    def test_claims(self):
        figure = with_degrees(100, 50) + (("on", 0, 1),)
        one, other_one = len(figure) - 2, len(figure) - 1
        self.assertEqual(claim_degree(figure, ("same", one, one)), (200, 100, 0))
        self.is_too_great(claim_polynomials, figure, ("same", one, one))
        self.assertEqual(claim_polynomials(figure, ("same", other_one, 0)), ((((0, 0, 1), -1),), ()))
        figure = with_degrees(124, 79)
        last = len(figure) - 1
        self.assertEqual(terms(claim_degree(figure, ("same", last, 2))), 126 * 80)
        figure = with_degrees(9999)
        last = len(figure) - 1
        self.assertEqual(terms(claim_degree(figure, ("line", last, last, 2))), 20000)
        self.assertEqual(claim_polynomials(figure, ("line", last, last, 2)), ((),))
        self.assertEqual(terms(claim_degree(figure, ("circle", last, 0, 2, 0))), 20001)
        self.is_too_great(claim_polynomials, figure, ("circle", last, 0, 2, 0))

    def test_ahead_of_all_work(self):
        figure = (("at", 10 ** 6, 10 ** 6 - 1),) + (("free",),) * 2
        figure = figure + tuple([("inverse", n - 1, n - 2, n - 3) for n in range(3, 40)])
        for call, more in ((point_triples, ()), (triple_of, (0,)), (claim_polynomials, (("same", 0, 1),))):
            self.is_too_great(call, figure, *more)


class LimitsTest(unittest.TestCase):
    def test_forty_steps_with_great_heights(self):
        figure = (("at", 10 ** 6, 123), ("at", -77, 10 ** 6), ("at", 4321, -99999), ("free",))
        figure = figure + (("middle", 0, 1, 2), ("mirror", 4, 1, 0), ("mirror", 3, 5, 4), ("foot", 6, 2, 5))
        figure = figure + tuple([("part", 7, n, n, 5) for n in range(32)])
        heights = [height.bit_length() for height in point_heights(figure)]
        self.assertEqual(len(figure), 40)
        self.assertGreater(max(heights), 3000)
        triples = point_triples(figure)
        position = ((3, 7), (-2, 5))
        for triple, place in zip(triples, made(figure, position)):
            x, y, w = [Fraction(*value_at(p, position)) for p in triple]
            self.assertEqual((x / w, y / w), tuple([Fraction(*number) for number in place]))
        self.assertEqual(claim_polynomials(figure, ("upright", 6, 7, 2, 5)), ((),))
