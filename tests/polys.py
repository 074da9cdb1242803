"""Polynomials for tests, worked out term by term."""

from fractions import Fraction

# 3 x - 2 y + x y, the document's example.
P = (((0, 1), -2), ((1, 0), 3), ((1, 1), 1))


class Poly:
    """A polynomial as a dict, whose signs do what they say in the plainest way."""

    def __init__(self, m, p=()):
        self.m = m
        self.numbers = {}
        for exponents, number in p:
            self.put(exponents, number)

    def put(self, exponents, number):
        assert len(exponents) == self.m
        self.numbers[exponents] = self.numbers.get(exponents, 0) + number

    def told(self):
        return tuple(sorted((e, n) for e, n in self.numbers.items() if n != 0))

    def of(self, other):
        return other if isinstance(other, Poly) else Poly(self.m, [((0,) * self.m, other)])

    def __add__(self, other):
        return Poly(self.m, list(self.numbers.items()) + list(self.of(other).numbers.items()))

    def __neg__(self):
        return Poly(self.m, [(e, -n) for e, n in self.numbers.items()])

    def __sub__(self, other):
        return self + -self.of(other)

    def __rsub__(self, other):
        return -self + other

    def __mul__(self, other):
        found = Poly(self.m)
        for e, n in self.numbers.items():
            for f, k in self.of(other).numbers.items():
                found.put(tuple([a + b for a, b in zip(e, f)]), n * k)
        return found

    __radd__ = __add__
    __rmul__ = __mul__

    def at(self, place):
        """The value, a Fraction, at a place of any numbers."""
        total = Fraction(0)
        for exponents, number in self.numbers.items():
            worth = Fraction(number)
            for value, exponent in zip(place, exponents):
                worth = worth * Fraction(value) ** exponent
            total += worth
        return total


def unknown_of(m, k):
    return Poly(m, [(tuple([int(j == k) for j in range(m)]), 1)])


def some_polynomial(source, m, terms, degree, size):
    """A polynomial of at most so many terms, its exponents and numbers drawn up to these."""
    found = Poly(m)
    for _ in range(terms):
        found.put(tuple([source.randrange(degree + 1) for _ in range(m)]), source.randrange(-size, size + 1))
    return found.told()


def grid_of(limits):
    places = [()]
    for limit in limits:
        places = [place + (n,) for place in places for n in range(limit + 1)]
    return places
