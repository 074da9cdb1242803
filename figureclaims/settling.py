"""Claims settled: at every position, at a told one not, or the figure at none."""

from figureclaims.certain import first_never, holds_always, place_without
from figureclaims.coordinates import claim_polynomials, point_triples
from figureclaims.drawings import plain_drawing
from figureclaims.figures import parameters_of, whole_position
from figureclaims.putting import columns_of, is_nought_with, put_in
from figureclaims.table import degrees_said, point_degrees, refuse_great


def grid(figure, claims):
    """For each parameter the number to which the grid of a figure and some claims goes."""
    degrees = point_degrees(figure)
    degrees = degrees + degrees_said(degrees, claims)
    return tuple([sum([degree[k] for degree in degrees]) for k in range(parameters_of(figure))])


def settle(figure, claim):
    """A right answer for a claim."""
    refuse_great(figure, (claim,))
    drawing = plain_drawing(figure)
    never = first_never(drawing)
    if never is not None:
        return "never", never
    if holds_always(drawing, claim):
        return ("always",)
    return "not", whole_position(place_without(drawing, [claim]))


def least_position(figure, claim):
    """The least position at which a figure is built and a claim fails, or None."""
    refuse_great(figure, (claim,))
    drawing = plain_drawing(figure)
    if first_never(drawing) is not None or holds_always(drawing, claim):
        return None
    lots = [(w,) for _, _, w in point_triples(figure)] + [claim_polynomials(figure, claim)]
    place = []
    for _ in range(parameters_of(figure)):
        # Put in for this parameter, each lesser number would leave nothing of some lot.
        n = _least_number(lots)
        place.append(n)
        lots = [tuple([put_in(p, 0, n) for p in lot]) for lot in lots]
    return whole_position(place)


def always(figure, claims):
    """The numbers of those claims that always hold, of a figure that can be built somewhere."""
    refuse_great(figure, claims)
    drawing = plain_drawing(figure)
    return [k for k, claim in enumerate(claims) if holds_always(drawing, claim)]


def common_position(figure, claims):
    """A position at which a figure is built and just those claims hold that always do, or None."""
    refuse_great(figure, claims)
    drawing = plain_drawing(figure)
    if first_never(drawing) is not None:
        return None
    failing = [claim for claim in claims if not holds_always(drawing, claim)]
    return whole_position(place_without(drawing, failing))


def _least_number(lots):
    """The least number that can be put in first without making all of a lot nought."""
    columns = [[columns_of(p) for p in lot] for lot in lots]
    n = 0
    while any([_all_nought_with(lot, n) for lot in columns]):
        n += 1
    return n


def _all_nought_with(lot, n):
    return all([is_nought_with(columns, n) for columns in lot])
