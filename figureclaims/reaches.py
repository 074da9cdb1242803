"""Reaches: the greatest degrees and the greatest height of a figure and of claims on it."""

from figureclaims.figures import parameters_of
from figureclaims.table import degrees_said, heights_said, point_degrees, point_heights, terms


def reach_of(figure, claims):
    """The reach of a figure and of some claims on it, a pair of a degree and a height."""
    degrees = point_degrees(figure)
    heights = point_heights(figure)
    degrees = degrees + degrees_said(degrees, claims)
    heights = heights + heights_said(heights, claims)
    most = tuple([max([degree[k] for degree in degrees]) for k in range(parameters_of(figure))])
    return most, max(heights, default=1)


def joined(one, other):
    """The reach that has each time the greater number of two."""
    return tuple([max(pair) for pair in zip(one[0], other[0])]), max(one[1], other[1])


def is_within(one, other):
    """Whether no number of one reach is greater than that of another one."""
    return one[1] <= other[1] and all([mine <= yours for mine, yours in zip(one[0], other[0])])


def size_of(reach):
    """How many binary figures 1 more than the height has, for each term of the degree."""
    return (reach[1] + 1).bit_length() * terms(reach[0])
