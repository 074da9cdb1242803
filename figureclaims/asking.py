"""Questions about a sheet's named claims, positions and points."""

from figureclaims.building import built, holds
from figureclaims.certain import first_never
from figureclaims.drawings import plain_drawing
from figureclaims.errors import BadAsk, NotBuilt, UnknownName
from figureclaims.figures import parameters_of
from figureclaims.layouts import claim_laid, figure_of, place_named
from figureclaims.settling import always
from figureclaims.sheets import names_of, part_named
from figureclaims.table import refuse_great


def claim_asked(sheet, name):
    """The pair of a sheet's figure and of the claim with a name, which may be anything."""
    _part_asked(sheet, name, "claim")
    return figure_of(sheet), claim_laid(sheet, name)


def whether_holds(sheet, claim, position):
    """Whether a named claim holds at a named position."""
    _part_asked(sheet, claim, "claim")
    places = _places_asked(sheet, position)
    return holds(places, claim_laid(sheet, claim))


def place_asked(sheet, point, position):
    """Where a named point lies at a named position."""
    if point not in [row[0] for row in sheet[1]]:
        raise BadAsk("name")
    return _places_asked(sheet, position)[place_named(sheet, point)]


def names_that_hold(sheet):
    """The list of the names of the claims of a sheet that always hold."""
    figure = figure_of(sheet)
    # A figure that is too great is told ahead of one that can be built nowhere, a claim behind it.
    refuse_great(figure, ())
    if first_never(plain_drawing(figure)) is not None:
        raise BadAsk("never")
    names = names_of(sheet, "claim")
    numbers = always(figure, [claim_laid(sheet, name) for name in names])
    return [names[k] for k in numbers]


def _part_asked(sheet, name, word):
    """What the part of a sort with a name, which may be anything, tells."""
    try:
        part = part_named(sheet, name)
    except UnknownName:
        raise BadAsk("name") from None
    if part[0] != word:
        raise BadAsk("sort")
    return part[2]


def _places_asked(sheet, name):
    """The places of a sheet's figure at the position with a name."""
    position = _part_asked(sheet, name, "position")
    figure = figure_of(sheet)
    if len(position) != parameters_of(figure):
        raise BadAsk("fit")
    try:
        return built(figure, position)
    except NotBuilt:
        raise BadAsk("built") from None
