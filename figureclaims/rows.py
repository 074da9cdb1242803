"""Polynomials as rows of pairs (code, number), a code being all exponents in one number.

With strides such as code_strides tells, exponents ascend as their codes do,
and codes are added as exponents are. So a row is as good as a polynomial in
one unknown; a dense one is best multiplied as one great number, in which each
number of the row has so many hexadecimal figures.
"""


def code_strides(degrees):
    """The strides for exponents of at most these degrees, the last unknown's being 1."""
    found = []
    stride = 1
    for degree in reversed(degrees):
        found.append(stride)
        stride = stride * (degree + 1)
    return found[::-1]


def coded(p, strides):
    """The row of a polynomial."""
    return [
        (sum([exponent * stride for exponent, stride in zip(exponents, strides)]), number)
        for exponents, number in p
    ]


def decoded(row, strides):
    """The polynomial of a row."""
    return tuple([(exponents_of(code, strides), number) for code, number in row])


def exponents_of(code, strides):
    """The exponents for which a code stands."""
    exponents = []
    for stride in strides:
        exponent, code = divmod(code, stride)
        exponents.append(exponent)
    return tuple(exponents)


def in_order(found):
    """The ascending row, or polynomial, of a dict of its numbers, noughts left out."""
    return [(key, found[key]) for key in sorted(found) if found[key] != 0]


def row_times(one, other):
    """The product of two rows."""
    if len(one) > len(other):
        one, other = other, one
    if len(one) < 2:
        return [(code + more, number * by) for code, number in one for more, by in other]
    first = one[0][0] + other[0][0]
    many = one[-1][0] + other[-1][0] - first + 1
    # Each pair of terms costs about as much as some places of one great number.
    if many * 4 < len(one) * len(other):
        return _times_packed(one, other, first, many)
    return _times_by_terms(one, other)


def times_cost(figures):
    """About how long it takes to multiply two numbers of so many hexadecimal figures.

    It is told in products of single digits, each of 30 binary figures, of which Python makes
    long numbers: above some 70 digits three products of half as many digits stand for one.
    """
    digits = figures * 2 // 15 + 1
    parts = 1
    while digits > 70:
        digits = (digits + 1) // 2
        parts = parts * 3
    return parts * digits * digits


def width_for(size):
    """How many hexadecimal figures numbers of at most this size, with a sign, need."""
    return size.bit_length() // 4 + 1


def packed_row(row, width):
    """The number that has the numbers of a row at its codes, each so wide."""
    above = [(code, number) for code, number in row if number > 0]
    below = [(code, -number) for code, number in row if number < 0]
    return _packed_above(above, width) - _packed_above(below, width)


def unpacked_row(packed, width, many):
    """The row with codes less than many of which a number is packed."""
    if packed == 0:
        return []
    # With half of a place's worth added everywhere no place has a sign.
    nought = "8" + "0" * (width - 1)
    half = int(nought, 16)
    text = f"{packed + int(nought * many, 16):x}".zfill(width * many)
    pieces = [text[at:at + width] for at in range((many - 1) * width, -1, -width)]
    return [(code, int(piece, 16) - half) for code, piece in enumerate(pieces) if piece != nought]


def _times_by_terms(one, other):
    found = {}
    for code, number in one:
        for more, by in other:
            found[code + more] = found.get(code + more, 0) + number * by
    return in_order(found)


def _times_packed(one, other, first, many):
    size = sum([abs(number) for _, number in one]) * max([abs(number) for _, number in other])
    width = width_for(size)
    product = _packed_from_start(one, width) * _packed_from_start(other, width)
    return [(first + code, number) for code, number in unpacked_row(product, width, many)]


def _packed_from_start(row, width):
    start = row[0][0]
    return packed_row([(code - start, number) for code, number in row], width)


def _packed_above(row, width):
    """The number of a row whose numbers are all above 0."""
    pieces = []
    at = 0
    for code, number in row:
        pieces.append("0" * ((code - at) * width))
        pieces.append(f"{number:x}".zfill(width))
        at = code + 1
    return int("0" + "".join(pieces[::-1]), 16)
