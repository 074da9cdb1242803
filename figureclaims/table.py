"""Degrees and heights of points and of claims, by the table alone.

What a word makes of points is told by a number and by how often each of the
points counts: degrees are added so often, and heights taken times one another.
"""

from figureclaims.errors import TooGreat
from figureclaims.figures import named, parameters_of, with_own
from figureclaims.words import is_integer

MOST_TERMS = 20000

COUNTS = {
    "at": (), "free": (),
    "on": (1, 1), "round": (1, 1), "part": (1, 1), "quarter": (1, 1),
    "shift": (1, 1, 1), "meet": (1, 1, 1, 1),
    "foot": (1, 2, 2), "mirror": (1, 2, 2), "middle": (2, 2, 2),
    "other": (3, 2, 1), "second": (1, 2, 2), "inverse": (2, 3, 2),
    "same": (1, 1), "line": (1, 1, 1), "circle": (2, 2, 2, 2),
    "parallel": (1, 1, 1, 1), "upright": (1, 1, 1, 1), "long": (2, 2, 2, 2),
    "ratio": (2, 2, 2, 2, 2, 2, 2, 2), "area": (1, 1, 1, 1, 1, 1), "angle": (1, 2, 1, 1, 2, 1),
}

# Those of at and part hang on their integers.
FACTORS = {
    "free": 1,
    "on": 3, "round": 10, "quarter": 3, "shift": 3, "meet": 8,
    "foot": 20, "mirror": 32, "middle": 12, "other": 40, "second": 32, "inverse": 24,
    "same": 2, "line": 6, "circle": 48, "parallel": 8, "upright": 8, "long": 16,
    "ratio": 128, "area": 12, "angle": 128,
}


def point_degrees(figure):
    """The list of the degrees of all points of a figure."""
    m = parameters_of(figure)
    degrees = []
    for step, own in with_own(figure, list(range(m))):
        degrees.append(step_degree(step, [degrees[p] for p in named(step)], own, m))
    return degrees


def point_heights(figure):
    """The list of the heights of all points of a figure."""
    heights = []
    for step in figure:
        heights.append(step_height(step, [heights[p] for p in named(step)]))
    return heights


def claim_degree(figure, claim):
    """The degree of a claim on a figure."""
    return degrees_said(point_degrees(figure), (claim,))[0]


def claim_height(figure, claim):
    """The height of a claim on a figure."""
    return heights_said(point_heights(figure), (claim,))[0]


def terms(degree):
    """How many terms a polynomial of a degree may have."""
    many = 1
    for number in degree:
        many = many * (number + 1)
    return many


def step_degree(step, degrees, own, m):
    """The degree in m unknowns of what a step makes of points and of its own parameters.

    Those are told by the numbers of their unknowns; one that is a fraction has no degree.
    """
    word = step[0]
    mine = [0] * m
    for worth in own:
        if is_integer(worth):
            mine[worth] = parameter_degree(word)
    return _added([tuple(mine), *degrees], (1,) + COUNTS[word])


def step_height(step, heights):
    """The height of what a step makes of points."""
    return _factor(step) * step_product(step, heights)


def step_product(step, numbers):
    """The product of numbers, one for each point that a step names, each as often as the point counts."""
    return _multiplied(numbers, COUNTS[step[0]])


def parameter_degree(word):
    """The degree of what a step with a step word makes in each of its own parameters."""
    return 2 if word == "round" else 1


def degree_said(word, degrees):
    """The degree of a claim with a word about points."""
    return _added(degrees, COUNTS[word])


def height_said(word, heights):
    """The height of a claim with a word about points."""
    return FACTORS[word] * _multiplied(heights, COUNTS[word])


def degrees_said(degrees, claims):
    """The list of the degrees of some claims, by those of all points."""
    return [degree_said(claim[0], [degrees[p] for p in claim[1:]]) for claim in claims]


def heights_said(heights, claims):
    """The list of the heights of some claims, by those of all points."""
    return [height_said(claim[0], [heights[p] for p in claim[1:]]) for claim in claims]


def refuse_great(figure, claims):
    """Raise TooGreat if a figure, or one of some claims on it, is too great."""
    degrees = point_degrees(figure)
    if max([terms(degree) for degree in degrees + degrees_said(degrees, claims)], default=0) > MOST_TERMS:
        raise TooGreat()


def _factor(step):
    word = step[0]
    if word == "at":
        return max(abs(step[1]), abs(step[2]), 1)
    if word == "part":
        return step[4] + 2 * abs(step[3])
    return FACTORS[word]


def _added(degrees, counts):
    """Degrees with as many members, added, each as often as it counts."""
    return tuple([
        sum([count * degree[k] for count, degree in zip(counts, degrees)])
        for k in range(len(degrees[0]))
    ])


def _multiplied(heights, counts):
    product = 1
    for height, count in zip(heights, counts):
        for _ in range(count):
            product = product * height
    return product
