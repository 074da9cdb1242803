"""What claims say, of the triples of the points that they name.

The numbers of a claim are what its polynomials come to: with triples of
points it holds just if all of them are 0.
"""

from figureclaims.vectors import area, between, cross, dot, square


def claim_holds(word, points):
    """Whether a claim with a claim word holds of a list of triples, no W of which is 0."""
    return not any(claim_numbers(word, points))


def claim_numbers(word, points):
    """The numbers of a claim with a claim word, by a list of triples."""
    says = CLAIMS[word]
    return says(*points)


def _same(a, b):
    return between(a, b)


def _line(a, b, c):
    return (area(a, b, c),)


def _circle(a, b, c, d):
    # The determinant of four rows, by those of the first two and of the last two.
    ab, cd = _two_rows(_row(a), _row(b)), _two_rows(_row(c), _row(d))
    return (
        ab[0] * cd[5] - ab[1] * cd[4] + ab[2] * cd[3]
        + ab[3] * cd[2] - ab[4] * cd[1] + ab[5] * cd[0],
    )


def _row(p):
    x, y, w = p
    return x * x + y * y, x * w, y * w, w * w


def _two_rows(r, s):
    """The determinants of two rows in the columns 0 and 1, 0 and 2, and so on."""
    columns = ((0, 1), (0, 2), (0, 3), (1, 2), (1, 3), (2, 3))
    return [r[i] * s[j] - r[j] * s[i] for i, j in columns]


def _parallel(a, b, c, d):
    return (cross(between(a, b), between(c, d)),)


def _upright(a, b, c, d):
    return (dot(between(a, b), between(c, d)),)


def _long(a, b, c, d):
    one, other = a[2] * b[2], c[2] * d[2]
    return (square(between(a, b)) * other * other - square(between(c, d)) * one * one,)


def _ratio(a, b, c, d, e, f, g, h):
    one = square(between(a, b)) * square(between(c, d))
    other = square(between(e, f)) * square(between(g, h))
    one_below, other_below = a[2] * b[2] * c[2] * d[2], e[2] * f[2] * g[2] * h[2]
    return (one * other_below * other_below - other * one_below * one_below,)


def _area(a, b, c, d, e, f):
    return (area(a, b, c) * d[2] * e[2] * f[2] - area(d, e, f) * a[2] * b[2] * c[2],)


def _angle(a, b, c, d, e, f):
    q, r, s, k = between(b, a), between(b, c), between(e, d), between(e, f)
    return (cross(q, r) * dot(s, k) - dot(q, r) * cross(s, k),)


CLAIMS = {
    "same": _same, "line": _line,
    "circle": _circle, "parallel": _parallel, "upright": _upright, "long": _long,
    "area": _area, "angle": _angle,
    "ratio": _ratio,
}
