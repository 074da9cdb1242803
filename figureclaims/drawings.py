"""Drawings: figures whose parameters are told, or run, and the triples of their points.

A step works on triples of polynomials as it does on integers, each polynomial
being packed into one number; what it makes is unpacked.
"""

from math import gcd

from figureclaims.figures import named, parameters_of, with_own
from figureclaims.making import step_triple
from figureclaims.packing import packed_triples, packed_unknown, triple_degree, triple_height, unpacked
from figureclaims.rows import code_strides, width_for
from figureclaims.table import parameter_degree, step_degree, step_height, step_product, terms
from figureclaims.words import is_integer


class Drawing:
    """A figure each of whose parameters is a fraction, or an unknown that others may be as well.

    worths has for each parameter a fraction, or the number of its unknown, of so many; own has
    them step by step. found keeps what is known of points: the triple, with integers, and the
    number, the least one there is, by which this is more than the fractions of the table.
    shorter is None, or the drawing of the first steps, which may know of their points.
    """

    def __init__(self, figure, worths, many, shorter=None):
        self.figure = figure
        self.worths = worths
        self.many = many
        self.own = [own for _, own in with_own(figure, worths)]
        self.found = {}
        self.shorter = shorter

    def triples(self, points):
        """The list of the triples of some points."""
        wanted = _all_behind(self.figure, points)
        if self.shorter is not None:
            ahead = [k for k in wanted if k < len(self.shorter.figure)]
            self.shorter.triples(ahead)
            for k in ahead:
                self.found[k] = self.shorter.found[k]
        for k in wanted:
            if k not in self.found:
                self.found[k] = self._made(k)
        return [self.found[p][0] for p in points]

    def lengthened(self, steps):
        """The drawing of the figure with steps behind it that have no parameters."""
        return Drawing(self.figure + steps, self.worths, self.many, self)

    def _made(self, k):
        """The triple of the point k, and the number, by those of the points that its step names."""
        step, own = self.figure[k], self.own[k]
        told = [self.found[p] for p in named(step)]
        triple = _step_polynomials(step, [points for points, _ in told], own, self.many)
        times = step_product(step, [number for _, number in told])
        for _, below in _fractions(step[0], own):
            times = times * below
        common = times
        for p in triple:
            for _, number in p:
                common = gcd(common, number)
        if common > 1:
            triple = tuple([_divided(p, common) for p in triple])
        return triple, times // common


def plain_drawing(figure):
    """A figure with an unknown for each parameter."""
    m = parameters_of(figure)
    return Drawing(figure, list(range(m)), m)


def left_drawing(figure, leaving):
    """A figure under a leaving: an unknown for each parameter that runs."""
    worths = []
    many = 0
    for told in leaving:
        worths.append(many if told is None else told)
        many += 1 if told is None else 0
    return Drawing(figure, worths, many)


def shared_drawing(one, other):
    """Two figures with as many parameters as one figure, the parameters of both being the same."""
    m = parameters_of(one)
    first = len(one)
    behind = []
    for step in other:
        points = named(step)
        moved = tuple([first + p for p in points])
        behind.append(step[:1] + moved + step[1 + len(points):])
    return Drawing(one + tuple(behind), list(range(m)) * 2, m)


def _all_behind(figure, points):
    """The ascending list of some points and of all those of which these are made."""
    wanted = [False] * len(figure)
    for p in points:
        wanted[p] = True
    for k in reversed(range(len(figure))):
        if wanted[k]:
            for p in named(figure[k]):
                wanted[p] = True
    return [k for k in range(len(figure)) if wanted[k]]


def _fractions(word, own):
    """Those of a step's own parameters that are fractions, each as often as its degree tells."""
    return [worth for worth in own if not is_integer(worth) for _ in range(parameter_degree(word))]


def _step_polynomials(step, points, own, m):
    """What a step makes, in m unknowns, of triples of polynomials and of its own parameters.

    By each of these that is a fraction it is too much: the number below it as often as its degree tells.
    """
    degree = step_degree(step, [triple_degree(m, triple) for triple in points], own, m)
    height = step_height(step, [triple_height(triple) for triple in points])
    for above, below in _fractions(step[0], own):
        height = height * max(abs(above), below)
    width = width_for(height)
    strides = code_strides(degree)
    parameters = [(packed_unknown(strides[worth], width), 1) if is_integer(worth) else worth for worth in own]
    integers = step[1 + len(points):]
    triple = step_triple(step[0], packed_triples(points, strides, width), integers, parameters)
    return unpacked(triple, strides, width, terms(degree))


def _divided(p, number):
    return tuple([(exponents, worth // number) for exponents, worth in p])
