"""Figures, positions and claims: their first wrong parts; what steps name."""

from figureclaims.errors import BadTree
from figureclaims.members import claim_fault, is_tuple_of, step_fault, tell_fault
from figureclaims.words import is_fraction, is_number, step_parameters, step_points


def check_figure(value):
    """Raise BadTree with the path of the first wrong part of what is no figure."""
    if not isinstance(value, tuple):
        raise BadTree(())
    for k, step in enumerate(value):
        tell_fault(step_fault(step, _earlier_than(k)), (k,))


def check_position(figure, value):
    """Raise BadTree with the path of the first wrong part of what is no position of a figure."""
    if not is_tuple_of(value, parameters_of(figure)):
        raise BadTree(())
    for k, number in enumerate(value):
        if not is_fraction(number):
            raise BadTree((k,))


def check_claim(figure, value):
    """Raise BadTree with the path of the first wrong part of what is no claim of a figure."""
    tell_fault(claim_fault(value, _earlier_than(len(figure))), ())


def is_position(figure, value):
    """Whether a value, which may be anything, is a position of a figure."""
    try:
        check_position(figure, value)
    except BadTree:
        return False
    return True


def parameters_of(figure):
    """How many parameters a figure has."""
    return sum([step_parameters(step[0]) for step in figure])


def whole_position(numbers):
    """The position that has some integers."""
    return tuple([(number, 1) for number in numbers])


def named(step):
    """The tuple of the points that a step names, each as often as it stands there."""
    return step[1:1 + step_points(step[0])]


def with_own(figure, worths):
    """The list of the pairs of each step and of its own parameters' worths, which stand step by step."""
    pairs = []
    told = 0
    for step in figure:
        own = worths[told:told + step_parameters(step[0])]
        told += len(own)
        pairs.append((step, own))
    return pairs


def _earlier_than(many):
    """A test whether a value is the number of one of the first so many points."""
    return lambda value: is_number(value) and value < many
