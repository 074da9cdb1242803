"""What steps make: a triple (X, Y, W) of the triples of the points that they name.

If the W of those points are not 0, a step can be done just if the W that it
makes is not 0 either.
"""

from figureclaims.figures import named
from figureclaims.vectors import between, crossed, dot, put_into, square


def step_triple(word, points, integers, parameters):
    """What a step makes of triples, of its integers, and of its parameters, fractions."""
    maker = MAKERS[word]
    told = [*points, *integers, *parameters]
    return maker(*told)


def step_made(step, triples, parameters):
    """What a step makes of its own parameters, and of those of all points' triples that it names."""
    points = named(step)
    return step_triple(step[0], [triples[p] for p in points], step[1 + len(points):], parameters)


def _at(x, y):
    return x, y, 1


def _free(u, v):
    return u[0] * v[1], v[0] * u[1], u[1] * v[1]


def _turned(a, b, along, across, below):
    """From a go along / below times the vector to b, and across / below times J of it."""
    q = between(a, b)
    w = b[2] * below
    return (
        a[0] * w + along * q[0] - across * q[1],
        a[1] * w + along * q[1] + across * q[0],
        a[2] * w,
    )


def _on(a, b, t):
    return _turned(a, b, t[0], 0, t[1])


def _round(a, b, t):
    n, m = t
    return _turned(a, b, m * m - n * n, 2 * n * m, m * m + n * n)


def _part(a, b, s, k):
    return _turned(a, b, s, 0, k)


def _quarter(a, b):
    return _turned(a, b, 0, 1, 1)


def _shift(a, b, c):
    q = between(a, b)
    w = a[2] * b[2]
    return c[0] * w + c[2] * q[0], c[1] * w + c[2] * q[1], c[2] * w


def _meet(a, b, c, d):
    return crossed(crossed(a, b), crossed(c, d))


def _towards(p, a, b, times_foot):
    """From p go so many times the way to its foot on the line of a and b."""
    line = crossed(a, b)
    n = line[0] * line[0] + line[1] * line[1]
    off = times_foot * put_into(line, p)
    return n * p[0] - line[0] * off, n * p[1] - line[1] * off, n * p[2]


def _foot(p, a, b):
    return _towards(p, a, b, 1)


def _mirror(p, a, b):
    return _towards(p, a, b, 2)


def _middle(a, b, c):
    x, y, w = 0, 0, 0
    for p, q, r in ((a, b, c), (b, c, a), (c, a, b)):
        v = between(q, r)
        size = (p[0] * p[0] + p[1] * p[1]) * q[2] * r[2]
        x = x - size * v[1]
        y = y + size * v[0]
        w = w - p[0] * v[1]
    return x, y, 2 * a[2] * b[2] * c[2] * w


def _other(a, b, m):
    q, r = between(a, b), between(a, m)
    far, along = square(q) * m[2], 2 * dot(q, r)
    return a[0] * far + along * q[0], a[1] * far + along * q[1], a[2] * far


def _inverse(p, m, a):
    q, r = between(m, p), between(m, a)
    far, along = square(q) * a[2] * a[2], square(r) * p[2]
    return m[0] * far + along * q[0], m[1] * far + along * q[1], m[2] * far


MAKERS = {
    "at": _at, "free": _free,
    "on": _on, "round": _round, "part": _part, "quarter": _quarter,
    "shift": _shift, "foot": _foot, "mirror": _mirror, "middle": _middle,
    "other": _other, "second": _mirror, "inverse": _inverse,
    "meet": _meet,
}
