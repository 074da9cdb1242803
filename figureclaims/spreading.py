"""Polynomials spread over grids: unknown by unknown, exponents give way to numbers put in.

What is spread is a dict from exponents to numbers, as terms are; in a key the
number put in stands in the place of the unknown's exponent.
"""

from figureclaims.polynomials import powers_of


def grid_places(limits):
    """The list of the whole places of a grid, ascending."""
    places = [()]
    for limit in limits:
        places = [place + (n,) for place in places for n in range(limit + 1)]
    return places


def lots_of(found, k):
    """The lots of what differs in the member k of its key alone, ascending, by the rest of the key."""
    lots = {}
    for key, number in found.items():
        lots.setdefault(key[:k] + key[k + 1:], []).append((key[k], number))
    return {rest: sorted(lot) for rest, lot in lots.items()}


def spread_over(found, k, limit):
    """What is left, not 0, if each number from 0 to a limit is put in for the unknown k."""
    degree = max([key[k] for key in found], default=0)
    lots = lots_of(found, k)
    spread = {}
    for n in range(limit + 1):
        powers = powers_of(n, degree)
        for rest, lot in lots.items():
            worth = worth_of(lot, powers)
            if worth != 0:
                spread[rest[:k] + (n,) + rest[k:]] = worth
    return spread


def worth_of(lot, powers):
    """The value of ascending pairs (exponent, number), by the powers of what is put in."""
    worth = 0
    last = lot[-1][0]
    # From the last one on, so that it is lesser powers that are taken times great numbers.
    for exponent, number in reversed(lot):
        worth = worth * powers[last - exponent] + number
        last = exponent
    return worth * powers[last]
