"""What claims say, of the triples of the points that they name."""

from figureclaims.vectors import area, between, cross, dot, square


def claim_holds(word, points):
    """Whether a claim with a claim word holds of a list of triples."""
    says = CLAIMS[word]
    return says(*points)


def _same(a, b):
    return between(a, b) == (0, 0)


def _line(a, b, c):
    return area(a, b, c) == 0


def _circle(a, b, c, d):
    u, v, w = between(a, b), between(a, c), between(a, d)
    # These vectors are too long by unlike factors, which the last ones make alike.
    return (
        square(u) * cross(v, w) * c[2] * d[2]
        + square(v) * cross(w, u) * d[2] * b[2]
        + square(w) * cross(u, v) * b[2] * c[2]
    ) == 0


def _parallel(a, b, c, d):
    return cross(between(a, b), between(c, d)) == 0


def _upright(a, b, c, d):
    return dot(between(a, b), between(c, d)) == 0


def _long(a, b, c, d):
    one, other = a[2] * b[2], c[2] * d[2]
    return square(between(a, b)) * other * other == square(between(c, d)) * one * one


def _ratio(a, b, c, d, e, f, g, h):
    one = square(between(a, b)) * square(between(c, d))
    other = square(between(e, f)) * square(between(g, h))
    one_below, other_below = a[2] * b[2] * c[2] * d[2], e[2] * f[2] * g[2] * h[2]
    return one * other_below * other_below == other * one_below * one_below


def _area(a, b, c, d, e, f):
    return area(a, b, c) * d[2] * e[2] * f[2] == area(d, e, f) * a[2] * b[2] * c[2]


def _angle(a, b, c, d, e, f):
    u, v, x, y = between(b, a), between(b, c), between(e, d), between(e, f)
    return cross(u, v) * dot(x, y) == dot(u, v) * cross(x, y)


CLAIMS = {
    "same": _same, "line": _line,
    "circle": _circle, "parallel": _parallel, "upright": _upright, "long": _long,
    "area": _area, "angle": _angle,
    "ratio": _ratio,
}
