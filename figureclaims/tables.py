"""Polynomials by the tables of their values, and by one number for all of theirs."""

from math import gcd

from figureclaims.polynomials import powers_of
from figureclaims.rows import coded, exponents_of, in_order
from figureclaims.spreading import grid_places, lots_of, spread_over


def table_of(p, limits):
    """The values of a polynomial on the grid of some limits, the places ascending."""
    found = {exponents: number for exponents, number in p}
    # Where few numbers are put in the terms fall together, and do not become many.
    for _, k in sorted([(limit, k) for k, limit in enumerate(limits)]):
        found = spread_over(found, k, limits[k])
    return tuple([found.get(place, 0) for place in grid_places(limits)])


def from_table(limits, table):
    """The pair (n, polynomial) of a table for the grid of some limits."""
    found = {place: number for place, number in zip(grid_places(limits), table) if number != 0}
    n = 1
    for k in range(len(limits)):
        by, found = _gathered(found, k, limits[k])
        n = n * by
    common = n
    for number in found.values():
        common = gcd(common, number)
    return n // common, tuple([(key, number // common) for key, number in in_order(found)])


def strides(limits):
    """The strides for degrees of at most some limits, the first unknown's being 1."""
    found = []
    stride = 1
    for limit in limits:
        found.append(stride)
        stride = stride * (limit + 1)
    return tuple(found)


def packed(p, limits, b):
    """The value of a polynomial where each unknown is the power of b that its stride tells."""
    row = coded(p, strides(limits))
    powers = powers_of(b, max([code for code, _ in row], default=0))
    return sum([number * powers[code] for code, number in row])


def unpacked(number, limits, b):
    """The polynomial with numbers of at most (b - 1) / 2 in size that is packed to a number, or None."""
    many = 1
    for limit in limits:
        many = many * (limit + 1)
    digits = []
    while number != 0 and len(digits) < many:
        digit = (number + b // 2) % b - b // 2
        digits.append(digit)
        number = (number - digit) // b
    if number != 0:
        return None
    backwards = strides(limits)[::-1]
    found = {exponents_of(code, backwards)[::-1]: digit for code, digit in enumerate(digits)}
    return tuple(in_order(found))


def _gathered(found, k, limit):
    """A number, and so many times what has exponents of the unknown k instead of the numbers put in."""
    lots = {rest: _first_differences(lot, limit) for rest, lot in lots_of(found, k).items()}
    factors = [1]
    for j in range(max([len(lot) for lot in lots.values()], default=0) - 1, 0, -1):
        factors.append(factors[-1] * j)
    factors = factors[::-1]
    gathered = {}
    for rest, lot in lots.items():
        for exponent, number in enumerate(_by_powers(lot, factors)):
            if number != 0:
                gathered[rest[:k] + (exponent,) + rest[k:]] = number
    return factors[0], gathered


def _first_differences(lot, limit):
    """The value at 0, the first difference there, and so on, up to the last one that is not 0."""
    row = [0] * (limit + 1)
    for n, number in lot:
        row[n] = number
    first = []
    while any(row):
        first.append(row[0])
        row = [after - before for before, after in zip(row, row[1:])]
    return first


def _by_powers(differences, factors):
    """The numbers, by powers, of factors[0] times the polynomial with such differences."""
    row = []
    for j in reversed(range(len(differences))):
        # What is told of further differences, times x - j, and this one divided by 1, 2 up to j.
        row = [before - j * number for before, number in zip([0] + row, row + [0])]
        row[0] = row[0] + differences[j] * factors[j]
    return row
