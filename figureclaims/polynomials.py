"""Polynomials: tuples of terms (exponents, number), ascending by exponents."""

from figureclaims.errors import BadTree
from figureclaims.fractions import fraction
from figureclaims.members import is_tuple_of, tell_fault
from figureclaims.rows import code_strides, coded, decoded, in_order, row_times
from figureclaims.words import is_integer, is_number


def check_polynomial(m, value):
    """Raise BadTree with the path of the first wrong part of what is no polynomial."""
    if not isinstance(value, tuple):
        raise BadTree(())
    before = None
    for k, term in enumerate(value):
        tell_fault(_term_fault(m, term, before), (k,))
        before = term[0]


def constant(m, n):
    """The polynomial in m unknowns that is an integer by itself."""
    return (((0,) * m, n),) if n != 0 else ()


def unknown(m, k):
    """The polynomial in m unknowns that is the unknown k alone."""
    return (((0,) * k + (1,) + (0,) * (m - k - 1), 1),)


def poly_sum(p, q):
    """The sum of two polynomials."""
    found = {exponents: number for exponents, number in p}
    for exponents, number in q:
        found[exponents] = found.get(exponents, 0) + number
    return tuple(in_order(found))


def poly_less(p, q):
    """The first polynomial less the second one."""
    return poly_sum(p, poly_by(q, -1))


def poly_times(p, q):
    """The product of two polynomials."""
    if not p or not q:
        return ()
    m = len(p[0][0])
    most = [one + other for one, other in zip(degrees_of(m, p), degrees_of(m, q))]
    strides = code_strides(most)
    return decoded(row_times(coded(p, strides), coded(q, strides)), strides)


def poly_power(m, p, n):
    """A power of a polynomial in m unknowns."""
    power = constant(m, 1)
    for figure in f"{n:b}":
        power = poly_times(power, power)
        if figure == "1":
            power = poly_times(power, p)
    return power


def poly_by(p, n):
    """A polynomial times an integer."""
    return tuple([(exponents, number * n) for exponents, number in p]) if n != 0 else ()


def value_at(p, place):
    """The value at a place of fractions, a fraction."""
    degrees = degrees_of(len(place), p)
    worths = []
    below = 1
    for (above, under), degree in zip(place, degrees):
        unders = powers_of(under, degree)
        # All terms are told over one number: what a lesser power lacks stands in above.
        worths.append([one * other for one, other in zip(powers_of(above, degree), unders[::-1])])
        below = below * unders[-1]
    return fraction(_value(p, worths), below)


def whole_value(p, place):
    """The value at a whole place, an integer."""
    degrees = degrees_of(len(place), p)
    return _value(p, [powers_of(n, degree) for n, degree in zip(place, degrees)])


def degrees_of(m, p):
    """The degrees of a polynomial in m unknowns."""
    return tuple([max([exponents[k] for exponents, _ in p], default=0) for k in range(m)])


def height_of(p):
    """The sum of the sizes of a polynomial's numbers."""
    return sum([abs(number) for _, number in p])


def powers_of(n, most):
    """The list of the powers of an integer, from the power 0 to a greatest one."""
    powers = [1]
    for _ in range(most):
        powers.append(powers[-1] * n)
    return powers


def _term_fault(m, term, before):
    """The path of the first wrong part of a term behind one with the exponents before."""
    if not is_tuple_of(term, 2):
        return ()
    exponents, number = term
    if not is_tuple_of(exponents, m):
        return (0,)
    for j, exponent in enumerate(exponents):
        if not is_number(exponent):
            return (0, j)
    if before is not None and exponents <= before:
        return (0,)
    return None if is_integer(number) and number != 0 else (1,)


def _value(p, worths):
    """The value, by the worths of each unknown's powers."""
    row = p
    for powers in reversed(worths):
        row = _last_put_in(row, powers)
    return row[0][1] if row else 0


def _last_put_in(row, powers):
    """What is left of ascending terms if the last unknown's powers are put in."""
    left = []
    for exponents, number in row:
        ahead = exponents[:-1]
        worth = number * powers[exponents[-1]]
        if left and left[-1][0] == ahead:
            worth = worth + left.pop()[1]
        left.append((ahead, worth))
    return left
