"""What is wrong with answers to claims, and with common positions."""

from figureclaims.building import holds, made
from figureclaims.certain import first_never, holds_always
from figureclaims.drawings import plain_drawing
from figureclaims.figures import is_position
from figureclaims.members import is_tuple_of
from figureclaims.settling import grid
from figureclaims.table import refuse_great
from figureclaims.words import is_number


def judge_answer(figure, claim, value):
    """The first fault of what is no right answer for a claim, or None."""
    refuse_great(figure, (claim,))
    if not _is_answer(figure, value):
        return ("form",)
    drawing = plain_drawing(figure)
    never = first_never(drawing)
    if never is not None:
        return None if value == ("never", never) else ("never", never)
    if value[0] == "never":
        return ("built",)
    if value[0] == "always":
        return None if holds_always(drawing, claim) else ("fails",)
    fault = _position_fault(figure, (claim,), value[1])
    if fault is not None:
        return fault
    return ("holds",) if holds(made(figure, value[1]), claim) else None


def judge_common(figure, claims, value):
    """The first fault of what is no common position of a figure and some claims, or None."""
    refuse_great(figure, claims)
    if not is_position(figure, value):
        return ("form",)
    fault = _position_fault(figure, claims, value)
    if fault is not None:
        return fault
    places = made(figure, value)
    drawing = plain_drawing(figure)
    for n, claim in enumerate(claims):
        if holds(places, claim) and not holds_always(drawing, claim):
            return ("holds", n)
    return None


def grid_fault(limits, position):
    """The fault of a position that is none of the grid that goes to some numbers, or None."""
    for k, (most, (above, below)) in enumerate(zip(limits, position)):
        if below != 1 or not 0 <= above <= most:
            return ("grid", k)
    return None


def _is_answer(figure, value):
    """Whether a value, which may be anything, has the form of an answer."""
    if not is_tuple_of(value, 2):
        return value == ("always",)
    word, told = value
    if word == "never":
        return is_number(told) and told < len(figure)
    return word == "not" and is_position(figure, told)


def _position_fault(figure, claims, position):
    """The fault of a position that is none of the grid, or at which the figure is not built."""
    fault = grid_fault(grid(figure, claims), position)
    if fault is not None:
        return fault
    many = len(made(figure, position))
    return ("step", many) if many < len(figure) else None
