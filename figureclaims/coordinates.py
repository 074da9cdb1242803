"""The coordinates of a figure's points, and what claims say of them, as polynomials."""

from figureclaims.drawings import plain_drawing
from figureclaims.figures import parameters_of
from figureclaims.meaning import claim_numbers
from figureclaims.packing import packed_triples, triple_degree, triple_height, unpacked
from figureclaims.rows import code_strides, width_for
from figureclaims.table import degree_said, height_said, refuse_great, terms


def point_triples(figure):
    """The list of the triples of all points of a figure."""
    refuse_great(figure, ())
    return plain_drawing(figure).triples(list(range(len(figure))))


def triple_of(figure, point):
    """The triple of a point of a figure."""
    refuse_great(figure, ())
    return plain_drawing(figure).triples([point])[0]


def claim_polynomials(figure, claim):
    """The polynomials of a claim on a figure."""
    refuse_great(figure, (claim,))
    m = parameters_of(figure)
    points = plain_drawing(figure).triples(claim[1:])
    degree = degree_said(claim[0], [triple_degree(m, triple) for triple in points])
    width = width_for(height_said(claim[0], [triple_height(triple) for triple in points]))
    strides = code_strides(degree)
    numbers = claim_numbers(claim[0], packed_triples(points, strides, width))
    return unpacked(numbers, strides, width, terms(degree))
