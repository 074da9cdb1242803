"""Sheets laid out: the figure of a sheet, its places, and its claims by numbers.

Each way is laid out once, as a pattern (steps, given): its own points are
numbered from 0, and its wants are -1, -2 and so on, in their order. A use
only renumbers the pattern. So ways that use one another ever so often, but
make few steps or none, are laid out as quickly as they are written.
"""

from figureclaims.errors import TooGreat, UnknownName
from figureclaims.sheets import names_of, part_named
from figureclaims.words import step_points

MOST_STEPS = 400


def size_of(sheet):
    """How many steps the figure of a sheet has, however many."""
    return _rows_size(sheet[1], _way_sizes(sheet[0]))


def figure_of(sheet):
    """The figure of a sheet."""
    steps, _ = _laid_sheet(sheet)
    return tuple(steps)


def places_of(sheet):
    """The numbers of the points for which the names of a sheet's rows stand."""
    _, stands = _laid_sheet(sheet)
    return tuple([stands[row[0]] for row in sheet[1]])


def place_named(sheet, name):
    """The number of the point for which the name of a row stands."""
    if name not in [row[0] for row in sheet[1]]:
        raise UnknownName(name)
    _, stands = _laid_sheet(sheet)
    return stands[name]


def claim_laid(sheet, name):
    """The claim with a name, by the numbers of its points."""
    if name not in names_of(sheet, "claim"):
        raise UnknownName(name)
    _, stands = _laid_sheet(sheet)
    word, *points = part_named(sheet, name)[2]
    return (word,) + tuple([stands[point] for point in points])


def _way_sizes(ways):
    sizes = {}
    for way in ways:
        sizes[way[0]] = _rows_size(way[2], sizes)
    return sizes


def _rows_size(rows, sizes):
    steps = [row[1] for row in rows]
    return sum([sizes[step[1]] if step[0] == "use" else 1 for step in steps])


def _laid_sheet(sheet):
    """The list of a sheet's steps, and for which point each name of its rows stands."""
    ways, rows, _ = sheet
    sizes = _way_sizes(ways)
    if _rows_size(rows, sizes) > MOST_STEPS:
        raise TooGreat()
    return _laid_rows(rows, (), _patterns(ways, sizes))


def _patterns(ways, sizes):
    patterns = {}
    for name, wants, rows, given in ways:
        # What uses a way that is too great is so itself: nobody misses its pattern.
        if sizes[name] <= MOST_STEPS:
            steps, stands = _laid_rows(rows, wants, patterns)
            patterns[name] = (steps, stands[given])
    return patterns


def _laid_rows(rows, wants, patterns):
    """The steps that rows make, and for which point each name stands behind them."""
    steps = []
    stands = {want: -1 - k for k, want in enumerate(wants)}
    for name, step in rows:
        if step[0] == "use":
            made, given = patterns[step[1]]
            points = [stands[point] for point in step[2]]
            first = len(steps)
            steps.extend([_renumbered(inner, points, first) for inner in made])
            stands[name] = _renumber(given, points, first)
        else:
            stands[name] = len(steps)
            steps.append(_step_of(step, stands))
    return steps, stands


def _step_of(step, stands):
    """A named step that is no use, with the numbers of its points."""
    behind = 1 + step_points(step[0])
    points = [stands[point] for point in step[1:behind]]
    return (step[0],) + tuple(points) + step[behind:]


def _renumbered(step, points, first):
    behind = 1 + step_points(step[0])
    numbers = [_renumber(number, points, first) for number in step[1:behind]]
    return (step[0],) + tuple(numbers) + step[behind:]


def _renumber(number, points, first):
    """What a pattern's point is, if points stand for its wants, and its own are from first on."""
    return points[-1 - number] if number < 0 else first + number
