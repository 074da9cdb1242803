"""Points as triples of integers, and the vectors and lines between them.

A triple (X, Y, W), W not 0, stands for the place X / W, Y / W; the numbers of
a line, (l1, l2, l3), tell the places (x, y) with l1 x + l2 y + l3 = 0. All
numbers stay whole, as nothing is divided.
"""

from math import gcd

from figureclaims.fractions import fraction


def triple_at(place):
    """The triple of a place, with the least W above 0."""
    (x, x_below), (y, y_below) = place
    w = x_below // gcd(x_below, y_below) * y_below
    return x * (w // x_below), y * (w // y_below), w


def place_at(triple):
    """The place for which a triple stands, a pair of fractions."""
    x, y, w = triple
    return fraction(x, w), fraction(y, w)


def between(a, b):
    """The vector from a to b, times the W of both."""
    return b[0] * a[2] - a[0] * b[2], b[1] * a[2] - a[1] * b[2]


def dot(q, r):
    return q[0] * r[0] + q[1] * r[1]


def cross(q, r):
    return q[0] * r[1] - q[1] * r[0]


def square(q):
    return dot(q, q)


def crossed(a, b):
    """The line through two points; and, of two lines, the point that is on both."""
    return (
        a[1] * b[2] - a[2] * b[1],
        a[2] * b[0] - a[0] * b[2],
        a[0] * b[1] - a[1] * b[0],
    )


def put_into(line, p):
    """What the numbers of a line come to at p, times its W: 0 just if p is on the line."""
    return line[0] * p[0] + line[1] * p[1] + line[2] * p[2]


def area(a, b, c):
    """Twice the area of three points, times the W of all: 0 just if they are on one line."""
    return put_into(crossed(a, b), c)
