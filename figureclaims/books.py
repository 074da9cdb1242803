"""Books: all that always holds, of six kinds, among the points of a figure, read off one drawing."""

from itertools import combinations

from figureclaims.errors import TooGreat
from figureclaims.figures import named
from figureclaims.reaches import size_of
from figureclaims.table import degrees_said, heights_said, point_degrees, point_heights, step_height
from figureclaims.witnesses import holds_at, triples_at, witness

MOST_SIZE = 60000


def list_claims(figure):
    """The list claims of a figure, kind by kind."""
    points = list(range(len(figure)))
    claims = [("same",) + some for some in combinations(points, 2)]
    claims.extend([("line",) + some for some in combinations(points, 3)])
    claims.extend([("circle",) + some for some in combinations(points, 4)])
    pairs = list(combinations(points, 2))
    for word in ("parallel", "upright", "long"):
        claims.extend([(word,) + one + other for one, other in combinations(pairs, 2)])
    return claims


def list_reach(figure):
    """The reach of a figure and of its list claims."""
    heights = point_heights(figure)
    height = max(heights + heights_said(heights, _greatest_claims(heights)), default=1)
    degrees = point_degrees(figure)
    most = []
    for k in range(len(degrees[0]) if degrees else 0):
        claims = _greatest_claims([degree[k] for degree in degrees])
        most.append(max([degree[k] for degree in degrees + degrees_said(degrees, claims)]))
    return tuple(most), height


def book(figure):
    """The book of a figure."""
    triples = _drawn(figure)
    if len(triples) < len(figure):
        return "never", len(triples)
    classes = _lots(list(range(len(figure))), lambda a, b: holds_at(triples, ("same", a, b)))
    chosen = [points[0] for points in classes]
    lines = _lines(triples, chosen)
    circles = _circles(triples, chosen, lines)
    pairs = list(combinations(chosen, 2))
    directions = _lots(pairs, lambda one, other: holds_at(triples, ("parallel",) + one + other))
    lengths = _lots(pairs, lambda one, other: holds_at(triples, ("long",) + one + other))
    return "book", classes, lines, circles, directions, _uprights(triples, directions), lengths


def shows(told, claim):
    """Whether a book that begins with "book" shows a claim of one of the six kinds."""
    _, classes, lines, circles, directions, uprights, lengths = told
    word = claim[0]
    points = [_lot_with(classes, p)[0] for p in claim[1:]]
    if word in ("same", "line", "circle") and _has_alike(points):
        return True
    if word == "line":
        return _are_in_one(lines, points)
    if word == "circle":
        return _are_in_one(lines + circles, points)
    if word == "same":
        return False
    a, b, c, d = points
    if a == b or c == d:
        return word != "long" or (a == b and c == d)
    one, other = (min(a, b), max(a, b)), (min(c, d), max(c, d))
    if word == "upright":
        numbers = [directions.index(_lot_with(directions, pair)) for pair in (one, other)]
        return (min(numbers), max(numbers)) in uprights
    return other in _lot_with(directions if word == "parallel" else lengths, one)


def news(figure, k):
    """The news of a step of a figure, or the first step up to it that can be done nowhere."""
    told = book(figure[:k + 1])
    if told[0] == "never":
        return told
    _, classes, lines, circles, directions, _, lengths = told
    first = _lot_with(classes, k)[0]
    if first != k:
        return "same", first
    pairs = [(points[0], k) for points in classes[:-1]]
    return (
        "new",
        tuple([line for line in lines if k in line]),
        tuple([circle for circle in circles if k in circle]),
        tuple([pair for pair in pairs if _has_others(directions, pair) or _has_others(lengths, pair)]),
    )


def book_claims(told):
    """The list of the claims of a book that begins with "book"."""
    _, classes, lines, circles, directions, uprights, lengths = told
    claims = [("same", points[0], b) for points in classes for b in points[1:]]
    claims.extend([("line",) + line[:2] + (c,) for line in lines for c in line[2:]])
    claims.extend([("circle",) + circle[:3] + (d,) for circle in circles for d in circle[3:]])
    claims.extend([("parallel",) + lot[0] + pair for lot in directions for pair in lot[1:]])
    claims.extend([("upright",) + directions[k][0] + directions[m][0] for k, m in uprights])
    claims.extend([("long",) + lot[0] + pair for lot in lengths for pair in lot[1:]])
    return claims


def _greatest_claims(worths):
    """Some list claims, above which no other one is, be it in degree or in height, by the points' worths."""
    order = [k for _, k in sorted([(-worth, k) for k, worth in enumerate(worths)])]
    if len(order) < 3:
        return [("same", order[0], order[1])] if len(order) == 2 else []
    claims = [("long", order[0], order[1], order[0], order[2])]
    if len(order) > 3:
        claims.append(("circle",) + tuple(order[:4]))
    return claims


def _drawn(figure):
    """The whole triples at the witness of the list reach, ahead of the first that ends with 0, or all."""
    heights = []
    for step in figure:
        heights.append(step_height(step, [heights[p] for p in named(step)]))
        # What comes of it would be greater still, and take long to be worked out.
        if heights[-1].bit_length() > MOST_SIZE:
            raise TooGreat()
    reach = list_reach(figure)
    if size_of(reach) > MOST_SIZE:
        raise TooGreat()
    return triples_at(figure, witness(reach))


def _lots(members, are_alike):
    """The lots of ascending members, each of those that are alike."""
    lots = []
    for member in members:
        own = [lot for lot in lots if are_alike(lot[0], member)]
        if own:
            own[0].append(member)
        else:
            lots.append([member])
    return tuple([tuple(lot) for lot in lots])


def _lines(triples, chosen):
    lines = []
    for a, b in combinations(chosen, 2):
        if not _are_in_one(lines, (a, b)):
            line = (a, b) + tuple([c for c in chosen if c > b and holds_at(triples, ("line", a, b, c))])
            if len(line) > 2:
                lines.append(line)
    return tuple(lines)


def _circles(triples, chosen, lines):
    circles = []
    for a, b, c in combinations(chosen, 3):
        if not _are_in_one(list(lines) + circles, (a, b, c)):
            circle = (a, b, c) + tuple([d for d in chosen if d > c and holds_at(triples, ("circle", a, b, c, d))])
            if len(circle) > 3:
                circles.append(circle)
    return tuple(circles)


def _uprights(triples, directions):
    pairs = [lot[0] for lot in directions]
    return tuple([
        (k, m) for k, m in combinations(range(len(pairs)), 2)
        if holds_at(triples, ("upright",) + pairs[k] + pairs[m])
    ])


def _lot_with(lots, member):
    """The lot in which a member is."""
    return [lot for lot in lots if member in lot][0]


def _has_alike(points):
    return len(set(points)) < len(points)


def _are_in_one(groups, points):
    """Whether all of these points are in one of some groups."""
    return any([all([p in group for p in points]) for group in groups])


def _has_others(lots, pair):
    return len(_lot_with(lots, pair)) > 1
