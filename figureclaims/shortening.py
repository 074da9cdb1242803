"""Figures shortened: no two points at the same place but for those that parameters need."""

from figureclaims.certain import first_never, twins_of
from figureclaims.drawings import plain_drawing
from figureclaims.figures import named
from figureclaims.twofigures import refuse_great_pairs
from figureclaims.words import step_parameters


def twins(figure):
    """For each point the first one that is always at the same place, or None for a figure never built."""
    points = list(range(len(figure)))
    refuse_great_pairs(figure, figure, [(a, b) for a in points for b in points])
    drawing = plain_drawing(figure)
    return None if first_never(drawing) is not None else tuple(twins_of(drawing))


def shortened(figure):
    """The pair of the shortened figure and of its places, or None for a figure never built."""
    firsts = twins(figure)
    if firsts is None:
        return None
    steps = []
    numbers = []
    for k, step in enumerate(figure):
        if firsts[k] == k or step_parameters(step[0]) > 0:
            steps.append(_renumbered(step, numbers))
        numbers.append(len(steps) - 1 if firsts[k] == k else numbers[firsts[k]])
    return tuple(steps), tuple(numbers)


def _renumbered(step, numbers):
    """A step with other numbers for its points."""
    points = named(step)
    return step[:1] + tuple([numbers[p] for p in points]) + step[1 + len(points):]
