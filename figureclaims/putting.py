"""Integers and polynomials put in for the unknowns of polynomials."""

from figureclaims.polynomials import degrees_of, powers_of, whole_value
from figureclaims.rows import code_strides, coded, decoded, in_order, row_times
from figureclaims.spreading import lots_of, spread_over, worth_of


def put_in(p, k, n):
    """The polynomial that comes if an integer is put in for the unknown k."""
    powers = powers_of(n, max([exponents[k] for exponents, _ in p], default=0))
    found = {}
    for exponents, number in p:
        rest = exponents[:k] + exponents[k + 1:]
        found[rest] = found.get(rest, 0) + number * powers[exponents[k]]
    return tuple(in_order(found))


def put_all(m, p, others):
    """The polynomial in m unknowns that comes if one of these is put in for each unknown."""
    strides = code_strides(_degrees_put_in(m, p, others))
    # The shortest ones are put in first, as long as there is much to put them in.
    order = [k for _, k in sorted([(-len(other), k) for k, other in enumerate(others)])]
    left = [(tuple([exponents[j] for j in order]), [(0, number)]) for exponents, number in p]
    left = sorted(left)
    for k in reversed(order):
        degree = max([exponents[k] for exponents, _ in p], default=0)
        left = _last_put_in(left, _row_powers(coded(others[k], strides), degree))
    return decoded(left[0][1], strides) if left else ()


def first_place(m, p):
    """The first place of its degrees' grid where a polynomial is not 0, or None for nought."""
    if not p:
        return None
    place = []
    for _ in range(m):
        n = 0
        columns = columns_of(p)
        while is_nought_with(columns, n):
            n += 1
        place.append(n)
        p = put_in(p, 0, n)
    return tuple(place)


def is_nought_on(m, p, limits):
    """Whether a polynomial is 0 at all places of the grid of some limits."""
    # Most that are not 0 everywhere are not 0 here, and much sooner told so.
    if whole_value(p, limits) != 0:
        return False
    degrees = degrees_of(m, p)
    found = {exponents: number for exponents, number in p}
    # First come those with which most terms fall together, so that they do not become many.
    crowds = [(len(lots_of(found, k)), k) for k in range(m) if degrees[k] > limits[k]]
    for _, k in sorted(crowds):
        found = spread_over(found, k, limits[k])
    # In the other unknowns it has no degree above a limit, so is 0 just as nought.
    return not found


def columns_of(p):
    """The polynomials in the first unknown that stand ahead of powers of the others."""
    return list(lots_of({exponents: number for exponents, number in p}, 0).values())


def is_nought_with(columns, n):
    """Whether a polynomial with such columns becomes nought if n is put in first."""
    degree = max([column[-1][0] for column in columns], default=0)
    powers = powers_of(n, degree)
    for column in columns:
        if worth_of(column, powers) != 0:
            return False
    return True


def _degrees_put_in(m, p, others):
    """What no degree is above if some polynomials in m unknowns are put in."""
    degrees = [degrees_of(m, other) for other in others]
    return [
        max([sum([e * degree[j] for e, degree in zip(exponents, degrees)]) for exponents, _ in p], default=0)
        for j in range(m)
    ]


def _row_powers(row, most):
    powers = [[(0, 1)]]
    for _ in range(most):
        powers.append(row_times(powers[-1], row))
    return powers


def _last_put_in(terms, powers):
    """What is left of ascending terms, with rows for numbers, if the last unknown's powers are put in."""
    left = []
    for exponents, row in terms:
        ahead = exponents[:-1]
        if not left or left[-1][0] != ahead:
            left.append((ahead, {}))
        found = left[-1][1]
        for code, number in row_times(row, powers[exponents[-1]]):
            found[code] = found.get(code, 0) + number
    return [(ahead, in_order(found)) for ahead, found in left]
