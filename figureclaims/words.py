"""Names, integers, numbers and fractions, and the words of steps and of claims."""

from math import gcd

LONGEST_NAME = 12

STEP_POINTS = {
    "at": 0, "free": 0,
    "on": 2, "round": 2, "part": 2, "quarter": 2,
    "shift": 3, "foot": 3, "mirror": 3, "middle": 3, "other": 3, "second": 3, "inverse": 3,
    "meet": 4,
}

CLAIM_POINTS = {
    "same": 2, "line": 3,
    "circle": 4, "parallel": 4, "upright": 4, "long": 4,
    "area": 6, "angle": 6,
    "ratio": 8,
}


def is_letter(sign):
    return "a" <= sign <= "z"


def is_digit(sign):
    return "0" <= sign <= "9"


def is_name(value):
    """Whether a value, which may be anything, is a name."""
    if not isinstance(value, str) or not 1 <= len(value) <= LONGEST_NAME:
        return False
    return is_letter(value[0]) and all([is_letter(sign) or is_digit(sign) for sign in value])


def is_integer(value):
    """Whether a value, which may be anything, is an integer; True and False are none."""
    return isinstance(value, int) and not isinstance(value, bool)


def is_number(value):
    """Whether a value, which may be anything, is an integer of at least 0."""
    return is_integer(value) and value >= 0


def is_fraction(value):
    """Whether a value, which may be anything, is a fraction in its one form."""
    if not isinstance(value, tuple) or len(value) != 2:
        return False
    above, below = value
    return is_integer(above) and is_integer(below) and below >= 1 and gcd(above, below) == 1


def step_points(word):
    """How many points a step word wants, or None for what is no step word."""
    return STEP_POINTS.get(word) if isinstance(word, str) else None


def claim_points(word):
    """How many points a claim word is about, or None for what is no claim word."""
    return CLAIM_POINTS.get(word) if isinstance(word, str) else None


def step_integers(word):
    """How many integers a step word has behind its points."""
    return 2 if word in ("at", "part") else 0


def step_parameters(word):
    """How many parameters a step with a step word has."""
    if word == "free":
        return 2
    return 1 if word in ("on", "round") else 0
