"""Paths: where a point goes when some parameters of its figure run."""

from math import gcd, lcm

from figureclaims.building import made
from figureclaims.certain import first_never, place_where
from figureclaims.courses import course_of, is_on_circle, is_on_line, spreading_pair, stays, values_of
from figureclaims.drawings import left_drawing
from figureclaims.figures import is_position
from figureclaims.leavings import running_of, sloped
from figureclaims.meaning import claim_holds
from figureclaims.members import is_tuple_of
from figureclaims.polynomials import value_at
from figureclaims.table import refuse_great
from figureclaims.vectors import area, triple_at
from figureclaims.words import is_integer, is_number

# How many positions papers with these words have.
POSITIONS = {"line": 2, "circle": 3, "curve": 4}

# What does not hold of the first two, three, four places of such papers.
APART = ("same", "line", "circle")


def kind_of(figure, leaving, point):
    """The kind of a point's path under a leaving."""
    refuse_great(figure, ())
    return _course(left_drawing(figure, leaving), point)[0]


def kinds(figure, leaving):
    """The list of the kinds of all points' paths under a leaving."""
    refuse_great(figure, ())
    drawing = left_drawing(figure, leaving)
    if first_never(drawing) is not None:
        return ["never"] * len(figure)
    triples = drawing.triples(list(range(len(figure))))
    return [course_of(drawing.many, triple)[0] for triple in triples]


def path_numbers(figure, leaving, point):
    """The line numbers or circle numbers of a path, or None if it is of another kind."""
    refuse_great(figure, ())
    word, told = _course(left_drawing(figure, leaving), point)
    return told if word in ("line", "circle") else None


def path_paper(figure, leaving, point):
    """A path paper for a point under a leaving."""
    refuse_great(figure, ())
    drawing = left_drawing(figure, leaving)
    word, told = _course(drawing, point)
    if word == "never":
        return word, told
    if word == "stays":
        return word, _filled(leaving, place_where(drawing, lambda guess, triples: True))
    if word == "fills":
        u, v = told
        rows = sloped(drawing.triples([point])[0], u, v)
        place = place_where(drawing, lambda guess, triples: guess.denies("line", values_of(guess, rows)))
        running = running_of(leaving)
        return word, running[u], running[v], _filled(leaving, place)
    positions = _positions_apart(drawing, leaving, point, POSITIONS[word])
    return (word, positions) if word == "curve" else (word, told, positions)


def judge_path(figure, leaving, point, value):
    """The first fault of what is no path paper for a point under a leaving, or None."""
    refuse_great(figure, ())
    if not _has_form(figure, leaving, value):
        return ("form",)
    drawing = left_drawing(figure, leaving)
    never = first_never(drawing)
    if never is not None or value[0] == "never":
        return None if value == ("never", never) else ("never",)
    positions = _positions_of(value)
    for k, position in enumerate(positions):
        if not _is_left(leaving, position):
            return ("leaving", k)
    places = []
    for k, position in enumerate(positions):
        drawn = made(figure, position)
        if len(drawn) < len(figure):
            return ("built", k)
        places.append(drawn[point])
    triple = drawing.triples([point])[0]
    if not _is_so_always(drawing.many, triple, value):
        return ("all",)
    return None if _is_so_there(triple, leaving, value, places) else ("places",)


def _course(drawing, point):
    """The kind of a point's path, and what belongs to it: for never the step."""
    never = first_never(drawing)
    if never is not None:
        return "never", never
    return course_of(drawing.many, drawing.triples([point])[0])


def _filled(leaving, numbers):
    """The position of a leaving at which the running parameters are these integers."""
    position = list(leaving)
    for k, number in zip(running_of(leaving), numbers):
        position[k] = (number, 1)
    return tuple(position)


def _positions_apart(drawing, leaving, point, many):
    """So many positions at which a point stands at places that are apart."""
    positions = []
    found = []
    for _ in range(many):
        position = _filled(leaving, place_where(drawing, _apart_from(found, point)))
        positions.append(position)
        found = found + [triple_at(made(drawing.figure, position)[point])]
    return tuple(positions)


def _apart_from(found, point):
    """A test whether a point stands apart from places that were found, told as triples."""
    if not found:
        return lambda guess, triples: True
    word = APART[len(found) - 1]
    return lambda guess, triples: guess.denies(word, found + [triples[point]])


def _has_form(figure, leaving, value):
    """Whether a value, which may be anything, has the form of a path paper."""
    if not isinstance(value, tuple) or not value or not isinstance(value[0], str):
        return False
    word, *told = value
    if word == "never":
        return len(told) == 1 and is_number(told[0]) and told[0] < len(figure)
    if word == "stays":
        return len(told) == 1 and is_position(figure, told[0])
    if word == "fills":
        return len(told) == 3 and _are_running(leaving, told[:2]) and is_position(figure, told[2])
    if word == "curve":
        return len(told) == 1 and _are_positions(figure, told[0], POSITIONS[word])
    if word in ("line", "circle") and len(told) == 2:
        return _are_numbers(word, told[0]) and _are_positions(figure, told[1], POSITIONS[word])
    return False


def _are_running(leaving, pair):
    """Whether a pair of any values are the numbers of running parameters, ascending."""
    if not all([is_number(k) and k < len(leaving) and leaving[k] is None for k in pair]):
        return False
    return pair[0] < pair[1]


def _are_positions(figure, value, many):
    return is_tuple_of(value, many) and all([is_position(figure, position) for position in value])


def _are_numbers(word, value):
    """Whether a value, which may be anything, are line numbers, or circle numbers."""
    if not is_tuple_of(value, 3 if word == "line" else 4) or not all([is_integer(number) for number in value]):
        return False
    common = 0
    for number in value:
        common = gcd(common, number)
    if word == "circle":
        return common == 1 and value[0] > 0
    # Of a and b one is not 0, so this is as well the first of all three that is not.
    return common == 1 and value[:2] > (0, 0)


def _positions_of(value):
    """The positions of a path paper that does not tell never."""
    if value[0] in ("stays", "fills"):
        return (value[-1],)
    return value[-1]


def _is_left(leaving, position):
    return all([told is None or told == number for told, number in zip(leaving, position)])


def _is_so_always(m, triple, value):
    """Whether that holds which a path paper tells of the whole path, by its triple in m unknowns."""
    if value[0] == "stays":
        return stays(triple)
    if value[0] == "line":
        return is_on_line(triple, value[1])
    if value[0] == "circle":
        return is_on_circle(triple, value[1])
    return value[0] == "fills" or spreading_pair(m, triple) is None


def _is_so_there(triple, leaving, value, places):
    """Whether that holds which a path paper tells of its positions; places has those of the point."""
    if value[0] == "fills":
        return _spreads(triple, leaving, value)
    points = [triple_at(place) for place in places]
    for k in range(1, len(points)):
        if claim_holds(APART[k - 1], points[:k + 1]):
            return False
    return True


def _spreads(triple, leaving, value):
    """Whether the spread that a paper with fills tells is not 0 at its position."""
    _, u, v, position = value
    running = running_of(leaving)
    place = [position[k] for k in running]
    slopes = sloped(triple, running.index(u), running.index(v))
    rows = [_whole_row([value_at(p, place) for p in row]) for row in slopes]
    return area(*rows) != 0


def _whole_row(fractions):
    """Integers that are some fractions, each times one number above 0."""
    below = 1
    for _, under in fractions:
        below = lcm(below, under)
    return [above * (below // under) for above, under in fractions]
