import random
import unittest
from fractions import Fraction

from figureclaims.building import built, holds, made
from figureclaims.figures import check_figure, check_position
from figureclaims.moves import moved_figure, moved_place, moved_position
from tests.drawn import CLAIMS, POINTS, at, pairs, some_figure, some_position

# Turned by a quarter, twice as long, and shifted by 3 and -1.
TURN = ((0, 1), (2, 1), (3, 1), (-1, 1))
SKEW = ((1, 2), (-3, 4), (5, 6), (-7, 1))


def whole(*numbers):
    return tuple([(n, 1) for n in numbers])


def some_move(source, below):
    """A move of fractions with denominators of at most a number."""
    while True:
        numbers = [Fraction(source.randrange(-5, 6), source.randrange(1, below + 1)) for _ in range(4)]
        if numbers[0] or numbers[1]:
            return tuple([(number.numerator, number.denominator) for number in numbers])


def expected_place(move, place):
    p, q, x, y = [Fraction(*number) for number in move]
    u, v = [Fraction(*number) for number in place]
    return pairs((p * u - q * v + x, q * u + p * v + y))


class MovedPlaceTest(unittest.TestCase):
    def test_whole(self):
        self.assertEqual(moved_place(TURN, whole(5, 7)), whole(-11, 9))
        self.assertEqual(moved_place(whole(1, 0, 0, 0), ((3, 7), (-2, 5))), ((3, 7), (-2, 5)))
        self.assertEqual(moved_place(whole(0, 1, 0, 0), whole(4, 9)), whole(-9, 4))
        self.assertEqual(moved_place(whole(1, 0, -4, 6), whole(4, 9)), whole(0, 15))
        self.assertEqual(moved_place(whole(-2, 0, 0, 0), whole(4, 9)), whole(-8, -18))

    def test_fractions(self):
        self.assertEqual(moved_place(SKEW, ((2, 3), (4, 9))), ((3, 2), (-131, 18)))
        source = random.Random(3)
        for _ in range(300):
            move = some_move(source, 6)
            place = some_position(source, (("free",),))
            self.assertEqual(moved_place(move, place), expected_place(move, place))

    def test_kinds(self):
        moved = moved_place(TURN, ((1, 2), (1, 3)))
        self.assertEqual([type(moved), type(moved[0]), type(moved[0][0])], [tuple, tuple, int])


class MovedPositionTest(unittest.TestCase):
    figure = (("free",), ("at", 1, 2), ("on", 0, 1), ("free",), ("round", 0, 1), ("free",))

    def test_free_steps_alone(self):
        position = whole(5, 7, 11, 0, 0, 13, 1, 0)
        self.assertEqual(moved_position(self.figure, TURN, position), whole(-11, 9, 11, 3, -1, 13, 3, 1))

    def test_fractions(self):
        position = ((2, 3), (4, 9), (1, 5), (0, 1), (0, 1), (1, 6), (0, 1), (0, 1))
        moved = ((3, 2), (-131, 18), (1, 5), (5, 6), (-7, 1), (1, 6), (5, 6), (-7, 1))
        self.assertEqual(moved_position(self.figure, SKEW, position), moved)

    def test_none(self):
        self.assertEqual(moved_position((), SKEW, ()), ())
        self.assertEqual(moved_position((("at", 0, 0),), TURN, ()), ())
        self.assertIs(type(moved_position(self.figure, TURN, whole(*range(8)))), tuple)


class MovedFigureTest(unittest.TestCase):
    def test_at_steps(self):
        figure = (("at", 5, 7), ("free",), ("at", 0, 0), ("part", 0, 2, 5, 7), ("on", 0, 1))
        moved = (("at", -11, 9), ("free",), ("at", 3, -1), ("part", 0, 2, 5, 7), ("on", 0, 1))
        self.assertEqual(moved_figure(figure, TURN), moved)
        check_figure(moved_figure(figure, TURN))

    def test_without_at_steps(self):
        figure = (("free",), ("free",), ("on", 0, 1), ("part", 0, 1, 5, 7))
        self.assertEqual(moved_figure(figure, TURN), figure)
        self.assertEqual(moved_figure(figure, SKEW), figure)
        self.assertEqual(moved_figure((), SKEW), ())

    def test_great_numbers(self):
        move = whole(10 ** 39, -10 ** 39, 7, 8)
        self.assertEqual(moved_figure((("at", 10 ** 6, 1),), move), (("at", 10 ** 45 + 10 ** 39 + 7, 8 + 10 ** 39 - 10 ** 45),))


class WhatHoldsTest(unittest.TestCase):
    def moves_all(self, figure, move, position):
        there = moved_position(figure, move, position)
        check_position(figure, there)
        moved = made(moved_figure(figure, move), there)
        self.assertEqual(moved, [moved_place(move, place) for place in made(figure, position)], (figure, position))

    def test_each_word(self):
        source = random.Random(5)
        for word, many in POINTS.items():
            integers = {"at": (4, -9), "part": (-2, 3)}.get(word, ())
            step = (word,) + tuple(range(many)) + integers
            figure = (("at", 1, 2), ("free",), ("at", -3, 5), ("free",), step)
            position = some_position(source, figure)
            self.moves_all(figure, TURN, position)
            self.moves_all(figure, some_move(source, 1), position)
            built(figure, position)
            figure = (("free",),) * 4 + ((step,) if word != "at" else ())
            position = some_position(source, figure)
            self.moves_all(figure, SKEW, position)
            self.moves_all(figure, some_move(source, 5), position)

    def test_many_figures(self):
        source = random.Random(7)
        for _ in range(400):
            figure = some_figure(source, source.randrange(3, 9))
            self.moves_all(figure, some_move(source, 1), some_position(source, figure))
            figure = tuple([("free",) if step[0] == "at" else step for step in figure])
            self.moves_all(figure, some_move(source, 5), some_position(source, figure))

    def test_claims(self):
        source = random.Random(9)
        seen = {}
        for _ in range(3000):
            word = source.choice(list(CLAIMS))
            places = at(*[Fraction(source.randrange(-2, 3), source.choice([1, 1, 2])) for _ in range(10)])
            claim = (word,) + tuple([source.randrange(5) for _ in range(CLAIMS[word][0])])
            whether = holds(places, claim)
            move = some_move(source, 3)
            self.assertIs(holds([moved_place(move, place) for place in places], claim), whether)
            mirrored = [(x, (-y[0], y[1])) for x, y in places]
            self.assertIs(holds(mirrored, claim), whether)
            seen[word, whether] = seen.get((word, whether), 0) + 1
        for word in CLAIMS:
            self.assertGreater(seen[word, True], 10, word)
            self.assertGreater(seen[word, False], 10, word)

    def test_a_mirrored_figure_is_another_one(self):
        figure = (("at", 0, 0), ("free",), ("quarter", 0, 1))
        above, below = built(figure, whole(1, 1)), built(figure, whole(1, -1))
        self.assertNotEqual(below, [(x, (-y[0], y[1])) for x, y in above])
