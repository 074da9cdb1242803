"""Moves (p, q, x, y): they turn and stretch places by p and q, and shift them by x and y."""

from figureclaims.figures import with_own
from figureclaims.fractions import minus, plus, times


def moved_place(move, place):
    """Where a move takes a place."""
    p, q, x, y = move
    u, v = place
    return (
        plus(minus(times(p, u), times(q, v)), x),
        plus(plus(times(q, u), times(p, v)), y),
    )


def moved_position(figure, move, position):
    """The position at which the moved figure has all its places where the move takes them."""
    moved = []
    for step, own in with_own(figure, position):
        moved.extend(moved_place(move, own) if step[0] == "free" else own)
    return tuple(moved)


def moved_figure(figure, move):
    """A figure moved by a move of integers, or by any move if no step of it is at."""
    return tuple([_moved_at(step, move) if step[0] == "at" else step for step in figure])


def _moved_at(step, move):
    (x, _), (y, _) = moved_place(move, ((step[1], 1), (step[2], 1)))
    return "at", x, y
