"""Figures with two free points put at told places: what always holds stays so."""


def can_fix(figure):
    """Whether a figure has no at step, and at least two free ones."""
    words = [step[0] for step in figure]
    return words.count("at") == 0 and words.count("free") >= 2


def fixed(figure):
    """The figure with at steps in the place of its first two free ones."""
    first, second = [k for k, step in enumerate(figure) if step[0] == "free"][:2]
    steps = list(figure)
    steps[first] = ("at", 0, 0)
    steps[second] = ("at", 1, 0)
    return tuple(steps)
