"""Two figures with as many parameters: which points of both are always at the same place."""

from figureclaims.answers import grid_fault
from figureclaims.building import made
from figureclaims.certain import first_never, holds_always, place_without, twins_of
from figureclaims.drawings import shared_drawing
from figureclaims.errors import TooGreat
from figureclaims.figures import is_position, parameters_of, whole_position
from figureclaims.members import is_tuple_of
from figureclaims.table import MOST_TERMS, point_degrees, refuse_great, terms
from figureclaims.words import is_number


def pair_grid(one, other, pairs):
    """For each parameter the number to which the grid of some pairs of points goes."""
    degrees, others = point_degrees(one), point_degrees(other)
    counted = degrees + others
    for a, b in pairs:
        counted = counted + [degrees[a], others[b]]
    return tuple([sum([degree[k] for degree in counted]) for k in range(parameters_of(one))])


def settle_pair(one, other, a, b):
    """A right answer for a pair of points."""
    refuse_great_pairs(one, other, [(a, b)])
    drawing = shared_drawing(one, other)
    never = first_never(drawing)
    if never is not None:
        return ("never",) + _step_of(one, never)
    claim = ("same", a, len(one) + b)
    if holds_always(drawing, claim):
        return ("always",)
    return "not", whole_position(place_without(drawing, [claim]))


def judge_pair(one, other, a, b, value):
    """The first fault of what is no right answer for a pair of points, or None."""
    refuse_great_pairs(one, other, [(a, b)])
    if not _is_answer(one, other, value):
        return ("form",)
    drawing = shared_drawing(one, other)
    never = first_never(drawing)
    if never is not None:
        told = ("never",) + _step_of(one, never)
        return None if value == told else told
    if value[0] == "never":
        return ("built",)
    if value[0] == "always":
        return None if holds_always(drawing, ("same", a, len(one) + b)) else ("unlike",)
    fault = _position_fault(one, other, pair_grid(one, other, [(a, b)]), value[1])
    if fault is not None:
        return fault
    return ("alike",) if made(one, value[1])[a] == made(other, value[1])[b] else None


def agreements(one, other):
    """The list of all pairs of points that agree, or None if one of both figures can be built nowhere."""
    twins = _shared_twins(one, other)
    return None if twins is None else _agreeing(one, other, twins)


def are_alike(one, other):
    """Whether two figures can be built somewhere, and each point of the one is that of the other."""
    twins = _shared_twins(one, other)
    if twins is None or len(one) != len(other):
        return False
    return all([twins[k] == twins[len(one) + k] for k in range(len(one))])


def parting(one, other):
    """A position at which just those pairs are at the same place that agree, or None."""
    twins = _shared_twins(one, other)
    if twins is None:
        return None
    agreeing = _agreeing(one, other, twins)
    apart = [("same", a, len(one) + b) for a, b in _all_pairs(one, other) if (a, b) not in agreeing]
    return whole_position(place_without(shared_drawing(one, other), apart))


def judge_parting(one, other, value):
    """The first fault of what is no parting of two figures that can be built somewhere, or None."""
    pairs = _all_pairs(one, other)
    refuse_great_pairs(one, other, pairs)
    if not is_position(one, value):
        return ("form",)
    fault = _position_fault(one, other, pair_grid(one, other, pairs), value)
    if fault is not None:
        return fault
    places, others = made(one, value), made(other, value)
    drawing = shared_drawing(one, other)
    for a, b in pairs:
        if places[a] == others[b] and not holds_always(drawing, ("same", a, len(one) + b)):
            return "alike", a, b
    return None


def refuse_great_pairs(one, other, pairs):
    """Raise TooGreat if one of two figures is too great, or the degrees of a pair, added, are."""
    refuse_great(one, ())
    refuse_great(other, ())
    degrees, others = point_degrees(one), point_degrees(other)
    for a, b in pairs:
        if terms([d + e for d, e in zip(degrees[a], others[b])]) > MOST_TERMS:
            raise TooGreat()


def _all_pairs(one, other):
    return [(a, b) for a in range(len(one)) for b in range(len(other))]


def _shared_twins(one, other):
    """The twins of the points of both figures, those of the other one behind, or None."""
    refuse_great_pairs(one, other, _all_pairs(one, other))
    drawing = shared_drawing(one, other)
    return None if first_never(drawing) is not None else twins_of(drawing)


def _agreeing(one, other, twins):
    return [(a, b) for a, b in _all_pairs(one, other) if twins[a] == twins[len(one) + b]]


def _step_of(one, k):
    """The figure, 0 or 1, and the step in it, of a step of two figures, the one being ahead."""
    return (0, k) if k < len(one) else (1, k - len(one))


def _is_answer(one, other, value):
    """Whether a value, which may be anything, has the form of an answer."""
    if is_tuple_of(value, 3):
        word, i, k = value
        return word == "never" and is_number(i) and i < 2 and is_number(k) and k < len(one if i == 0 else other)
    if is_tuple_of(value, 2):
        return value[0] == "not" and is_position(one, value[1])
    return value == ("always",)


def _position_fault(one, other, grid, position):
    """The fault of a position that is none of a grid, or at which one of both figures is not built."""
    fault = grid_fault(grid, position)
    if fault is not None:
        return fault
    for i, figure in enumerate((one, other)):
        many = len(made(figure, position))
        if many < len(figure):
            return "step", i, many
    return None
