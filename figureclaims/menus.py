"""Menus: steps from known points, and the fewest of them that make a point."""

from itertools import combinations, permutations

from figureclaims.certain import first_never, holds_always
from figureclaims.drawings import plain_drawing
from figureclaims.figures import named

MOST_STEPS = 2


def menu(points):
    """The ascending list of the menu steps of an ascending tuple of points."""
    known = list(points)
    pairs = list(combinations(known, 2))
    steps = [("meet",) + one + other for one, other in combinations(pairs, 2)]
    steps.extend([("part", a, b, 1, 2) for a, b in pairs])
    steps.extend([("other",) + three for three in permutations(known, 3)])
    for word in ("foot", "mirror", "second"):
        steps.extend([(word, p, a, b) for a, b in pairs for p in known if p not in (a, b)])
    return sorted(steps)


def lengthened(figure, steps):
    """The figure with steps put behind it."""
    return figure + tuple(steps)


def makes(figure, known, z, steps):
    """Whether steps are a building from known points that makes a point of a figure."""
    if not _is_building(figure, known, steps):
        return False
    return _made_by(plain_drawing(figure), known, z, tuple(steps))


def fewest(figure, known, z):
    """The fewest steps that make a point from known points, or None."""
    drawing = plain_drawing(figure)
    if first_never(drawing) is not None:
        return None
    for many in range(MOST_STEPS + 1):
        for steps in _buildings(figure, known, many):
            if _made_by(drawing, known, z, steps):
                return many
    return None


def shortest(figure, known, z):
    """The ascending list of the shortest buildings from known points that make a point."""
    drawing = plain_drawing(figure)
    if first_never(drawing) is not None:
        return []
    for many in range(MOST_STEPS + 1):
        found = [steps for steps in _buildings(figure, known, many) if _made_by(drawing, known, z, steps)]
        if found:
            return found
    return []


def _buildings(figure, known, many):
    """The ascending list of the buildings of so many steps."""
    if many == 0:
        return [()]
    firsts = menu(known)
    if many == 1:
        return [(step,) for step in firsts]
    seconds = _second_steps(figure, known)
    return [(first, second) for first in firsts for second in seconds]


def _second_steps(figure, known):
    """The ascending list of what may follow a first step: it names the point of this one."""
    n = len(figure)
    return [step for step in menu(tuple(known) + (n,)) if n in named(step)]


def _is_building(figure, known, steps):
    if len(steps) > MOST_STEPS or (len(steps) > 0 and steps[0] not in menu(known)):
        return False
    return len(steps) < MOST_STEPS or steps[1] in _second_steps(figure, known)


def _made_by(drawing, known, z, steps):
    """Whether a building makes a point of the figure of a drawing."""
    longer = drawing.lengthened(steps)
    if first_never(longer) is not None:
        return False
    if not steps:
        return any([holds_always(longer, ("same", z, k)) for k in known])
    return holds_always(longer, ("same", z, len(longer.figure) - 1))
