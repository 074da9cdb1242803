"""Triples of polynomials packed: each polynomial into one number.

The number has all numbers of the polynomial side by side, each so many
hexadecimal figures wide that none runs into the next one: so a step, or a
claim, works on packed triples as on integers.
"""

from figureclaims.polynomials import degrees_of, height_of
from figureclaims.rows import coded, decoded, packed_row, unpacked_row


def triple_degree(m, triple):
    """For each of m unknowns the greatest degree of a triple's polynomials."""
    degrees = [degrees_of(m, p) for p in triple]
    return tuple([max([degree[k] for degree in degrees]) for k in range(m)])


def triple_height(triple):
    """The greatest height of a triple's polynomials."""
    return max([height_of(p) for p in triple])


def packed_triples(triples, strides, width):
    """The list of some triples, packed with these strides and so wide."""
    return [tuple([packed_row(coded(p, strides), width) for p in triple]) for triple in triples]


def packed_unknown(stride, width):
    """The number to which the unknown with a stride is packed."""
    return 1 << (4 * width * stride)


def unpacked(numbers, strides, width, many):
    """The tuple of the polynomials of so many terms at most that are packed to some numbers."""
    return tuple([decoded(unpacked_row(number, width, many), strides) for number in numbers])
