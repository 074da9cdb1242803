"""The first wrong part of a step, and of a claim.

Sheets name points by names, figures by numbers: is_point tells whether a
member of a step or a claim may stand there as a point.
"""

from figureclaims.errors import BadTree
from figureclaims.words import claim_points, is_integer, step_integers, step_points


def is_tuple_of(value, many):
    return isinstance(value, tuple) and len(value) == many


def tell_fault(fault, path):
    """Raise the path of a fault, if there is one, in the part to which path leads."""
    if fault is not None:
        raise BadTree(path + fault)


def step_fault(value, is_point):
    """The path of the first wrong part of what should be a step, or None."""
    if not isinstance(value, tuple) or not value:
        return ()
    word = value[0]
    points = step_points(word)
    if points is None or len(value) != 1 + points + step_integers(word):
        return ()
    for k in range(1, 1 + points):
        if not is_point(value[k]):
            return (k,)
    for k in range(1 + points, len(value)):
        if not is_integer(value[k]):
            return (k,)
    # Only the last number of part is one that things are divided by.
    if word == "part" and value[4] < 1:
        return (4,)
    return None


def claim_fault(value, is_point):
    """The path of the first wrong part of what should be a claim, or None."""
    if not isinstance(value, tuple) or not value:
        return ()
    points = claim_points(value[0])
    if points is None or len(value) != 1 + points:
        return ()
    for k in range(1, 1 + points):
        if not is_point(value[k]):
            return (k,)
    return None
