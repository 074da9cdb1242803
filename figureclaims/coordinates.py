"""The coordinates of a figure's points, and what claims say of them, as polynomials.

Polynomials are packed, each into one number, by a power of 16 that is greater
than all of their numbers: so a step, or a claim, works on them as on integers,
and what it makes is unpacked.
"""

from figureclaims.figures import named, parameters_of
from figureclaims.making import step_triple
from figureclaims.meaning import claim_numbers
from figureclaims.polynomials import degrees_of, height_of
from figureclaims.rows import code_strides, coded, decoded, packed_row, unpacked_row, width_for
from figureclaims.table import degree_said, height_said, refuse_great, step_degree, step_height, terms
from figureclaims.words import step_parameters


def point_triples(figure):
    """The list of the triples of all points of a figure."""
    refuse_great(figure, ())
    return _triples(figure, list(range(len(figure))))


def triple_of(figure, point):
    """The triple of a point of a figure."""
    refuse_great(figure, ())
    return _triples(figure, [point])[point]


def claim_polynomials(figure, claim):
    """The polynomials of a claim on a figure."""
    refuse_great(figure, (claim,))
    triples = _triples(figure, claim[1:])
    return said_of(parameters_of(figure), triples, claim)


def said_of(m, triples, claim):
    """The polynomials, in m unknowns, of a claim, by a list of triples."""
    word = claim[0]
    points = [triples[p] for p in claim[1:]]
    degree = degree_said(word, [_degree(m, triple) for triple in points])
    width = width_for(height_said(word, [_height(triple) for triple in points]))
    strides = code_strides(degree)
    numbers = claim_numbers(word, _packed(points, strides, width))
    return _unpacked(numbers, strides, width, terms(degree))


def first_nought(triples):
    """The number of the first triple whose W is nought, or None."""
    for k, triple in enumerate(triples):
        if not triple[2]:
            return k
    return None


def _triples(figure, points):
    """The triples of some points, and of all that stand behind them; None for others."""
    wanted = _all_behind(figure, points)
    triples = []
    first = 0
    for k, step in enumerate(figure):
        told = [triples[p] for p in named(step)]
        triples.append(_made(step, told, first, parameters_of(figure)) if wanted[k] else None)
        first += step_parameters(step[0])
    return triples


def _all_behind(figure, points):
    """For each point whether it is one of some points, or these are made of it."""
    wanted = [False] * len(figure)
    for p in points:
        wanted[p] = True
    for k in reversed(range(len(figure))):
        if wanted[k]:
            for p in named(figure[k]):
                wanted[p] = True
    return wanted


def _made(step, points, first, m):
    """The triple that a step makes of triples, its first one of m parameters being told."""
    degree = step_degree(step, [_degree(m, triple) for triple in points], first, m)
    width = width_for(step_height(step, [_height(triple) for triple in points]))
    strides = code_strides(degree)
    own = strides[first:first + step_parameters(step[0])]
    parameters = [(1 << (4 * width * stride), 1) for stride in own]
    integers = step[1 + len(points):]
    triple = step_triple(step[0], _packed(points, strides, width), integers, parameters)
    return _unpacked(triple, strides, width, terms(degree))


def _degree(m, triple):
    degrees = [degrees_of(m, p) for p in triple]
    return tuple([max([degree[k] for degree in degrees]) for k in range(m)])


def _height(triple):
    return max([height_of(p) for p in triple])


def _packed(triples, strides, width):
    return [tuple([packed_row(coded(p, strides), width) for p in triple]) for triple in triples]


def _unpacked(numbers, strides, width, many):
    return tuple([decoded(unpacked_row(number, width, many), strides) for number in numbers])
