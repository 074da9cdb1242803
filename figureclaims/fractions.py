"""Fractions: pairs (a, b) of integers, b at least 1, without a common divisor."""

from math import gcd


def fraction(a, b):
    """The fraction a over b, integers of any sign, b not 0."""
    common = gcd(a, b)
    if b < 0:
        common = -common
    return a // common, b // common


def plus(x, y):
    return fraction(x[0] * y[1] + y[0] * x[1], x[1] * y[1])


def minus(x, y):
    return fraction(x[0] * y[1] - y[0] * x[1], x[1] * y[1])


def times(x, y):
    return fraction(x[0] * y[0], x[1] * y[1])


def over(x, y):
    """x over y, y not 0."""
    return fraction(x[0] * y[1], x[1] * y[0])


def less(x, y):
    """Whether x is less than y."""
    return x[0] * y[1] < y[0] * x[1]
