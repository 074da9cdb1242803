"""Leavings: some parameters of a figure are told, the others run."""

from figureclaims.certain import first_never
from figureclaims.drawings import left_drawing
from figureclaims.errors import BadTree
from figureclaims.figures import parameters_of
from figureclaims.members import is_tuple_of
from figureclaims.polynomials import poly_less, poly_sum, poly_times
from figureclaims.table import refuse_great
from figureclaims.words import is_fraction


def check_leaving(figure, value):
    """Raise BadTree with the path of the first wrong part of what is no leaving of a figure."""
    if not is_tuple_of(value, parameters_of(figure)):
        raise BadTree(())
    for k, told in enumerate(value):
        if told is not None and not is_fraction(told):
            raise BadTree((k,))


def under(figure, leaving):
    """The list of the triples of all points of a figure under a leaving."""
    refuse_great(figure, ())
    return left_drawing(figure, leaving).triples(list(range(len(figure))))


def blocked(figure, leaving):
    """The number of the first step that can be done nowhere under a leaving, or None."""
    refuse_great(figure, ())
    return first_never(left_drawing(figure, leaving))


def slope(p, k):
    """The slope of a polynomial in its unknown k."""
    return tuple([
        (exponents[:k] + (exponents[k] - 1,) + exponents[k + 1:], number * exponents[k])
        for exponents, number in p if exponents[k] > 0
    ])


def spread(figure, leaving, point, u, v):
    """The spread of a point in two running parameters, told by their numbers in the figure."""
    refuse_great(figure, ())
    triple = left_drawing(figure, leaving).triples([point])[0]
    running = running_of(leaving)
    return spread_of(triple, running.index(u), running.index(v))


def running_of(leaving):
    """The list of the numbers of the parameters that run."""
    return [k for k, told in enumerate(leaving) if told is None]


def spread_of(triple, u, v):
    """The spread, in the unknowns u and v, of a triple of polynomials."""
    (x, y, w), (x_u, y_u, w_u), (x_v, y_v, w_v) = sloped(triple, u, v)
    first = poly_times(x, _minor(y_u, w_u, y_v, w_v))
    second = poly_times(y, _minor(x_u, w_u, x_v, w_v))
    third = poly_times(w, _minor(x_u, y_u, x_v, y_v))
    return poly_sum(poly_less(first, second), third)


def sloped(triple, u, v):
    """A triple, and the triples of its slopes in the unknowns u and v."""
    return [triple, tuple([slope(p, u) for p in triple]), tuple([slope(p, v) for p in triple])]


def _minor(p, q, r, s):
    return poly_less(poly_times(p, s), poly_times(q, r))
