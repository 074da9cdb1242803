"""Claims settled: at every position, at a told one not, or the figure at none."""

from figureclaims.coordinates import first_nought, point_triples, said_of
from figureclaims.figures import parameters_of
from figureclaims.putting import columns_of, is_nought_with, put_in
from figureclaims.table import degrees_said, point_degrees, refuse_great


def grid(figure, claims):
    """For each parameter the number to which the grid of a figure and some claims goes."""
    degrees = point_degrees(figure)
    degrees = degrees + degrees_said(degrees, claims)
    return tuple([sum([degree[k] for degree in degrees]) for k in range(parameters_of(figure))])


def settle(figure, claim):
    """A right answer for a claim."""
    refuse_great(figure, (claim,))
    triples = point_triples(figure)
    never = first_nought(triples)
    if never is not None:
        return "never", never
    said = said_of(parameters_of(figure), triples, claim)
    if not any(said):
        return ("always",)
    return "not", _least_place(triples, [said], parameters_of(figure))


def least_position(figure, claim):
    """The least position at which a figure is built and a claim fails, or None."""
    answer = settle(figure, claim)
    return answer[1] if answer[0] == "not" else None


def always(figure, claims):
    """The numbers of those claims that always hold, of a figure that can be built somewhere."""
    refuse_great(figure, claims)
    triples = point_triples(figure)
    m = parameters_of(figure)
    return [k for k, claim in enumerate(claims) if not any(said_of(m, triples, claim))]


def common_position(figure, claims):
    """A position at which a figure is built and just those claims hold that always do, or None."""
    refuse_great(figure, claims)
    triples = point_triples(figure)
    if first_nought(triples) is not None:
        return None
    m = parameters_of(figure)
    said = [said_of(m, triples, claim) for claim in claims]
    return _least_place(triples, [lot for lot in said if any(lot)], m)


def _least_place(triples, lots, m):
    """The least position at which no W is 0, and not all polynomials of any of these lots.

    Each parameter is the least number that leaves something of each of them.
    """
    lots = [(w,) for _, _, w in triples] + lots
    place = []
    for _ in range(m):
        n = _least_number(lots)
        place.append((n, 1))
        lots = [tuple([put_in(p, 0, n) for p in lot]) for lot in lots]
    return tuple(place)


def _least_number(lots):
    """The least number that can be put in first without making all of a lot nought."""
    columns = [[columns_of(p) for p in lot] for lot in lots]
    n = 0
    while any([_all_nought_with(lot, n) for lot in columns]):
        n += 1
    return n


def _all_nought_with(lot, n):
    return all([is_nought_with(columns, n) for columns in lot])
