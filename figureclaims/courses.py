"""What the places X / W, Y / W of a triple of polynomials, W not nought, lie on together."""

from math import gcd

from figureclaims.certain import guess_of, says_nothing
from figureclaims.leavings import sloped
from figureclaims.polynomials import poly_by, poly_sum, poly_times

# So many of them are tried, all with the same prime, to see that there is no circle.
SEEDS = (0, 4, 8, 12)


def course_of(m, triple):
    """The kind of all places of a triple in m unknowns, and what belongs to it.

    That is None for stays and curve, the line numbers, the circle numbers, or for fills two
    unknowns in which the spread is not nought.
    """
    lines = _relations(triple)
    if len(lines) == 2:
        return "stays", None
    if lines:
        return "line", lines[0]
    circle = _circle_of(m, triple)
    if circle is not None:
        return "circle", circle
    pair = spreading_pair(m, triple)
    return ("curve", None) if pair is None else ("fills", pair)


def stays(triple):
    """Whether all places of a triple are one."""
    return len(_relations(triple)) == 2


def is_on_line(triple, numbers):
    """Whether all places of a triple lie on the line with line numbers."""
    return not _all_times(triple, numbers)


def is_on_circle(triple, numbers):
    """Whether all places of a triple lie on the circle with circle numbers."""
    return not _all_times(_circle_parts(triple), numbers)


def spreading_pair(m, triple):
    """The first two unknowns of m in which the spread of a triple is not nought, or None."""
    guess = guess_of(0, m)
    for u in range(m):
        for v in range(u + 1, m):
            rows = sloped(triple, u, v)
            if guess.denies("line", values_of(guess, rows)) or not says_nothing(m, "line", rows):
                return u, v
    return None


def values_of(guess, triples):
    """What is left of triples of polynomials for a guess."""
    return [tuple([guess.value(p) for p in triple]) for triple in triples]


def _circle_of(m, triple):
    """The numbers of the circle on which all places lie, which are on no line, or None."""
    guesses = [guess_of(seed, m) for seed in SEEDS]
    points = [values_of(guess, [triple])[0] for guess in guesses]
    if guesses[0].denies("circle", points):
        return None
    circles = _relations(_circle_parts(triple))
    return circles[0] if circles else None


def _circle_parts(triple):
    x, y, w = triple
    return poly_sum(poly_times(x, x), poly_times(y, y)), poly_times(x, w), poly_times(y, w), poly_times(w, w)


def _all_times(polynomials, numbers):
    """The sum of some polynomials, each times its number."""
    total = ()
    for p, number in zip(polynomials, numbers):
        total = poly_sum(total, poly_by(p, number))
    return total


def _relations(polynomials):
    """As many rows of numbers as there can be, so that the polynomials times each row are nought.

    None of the rows comes of others. The numbers of each have no common divisor, and the first
    that is not 0 is above 0.
    """
    many = len(polynomials)
    kept = [tuple([int(j == k) for j in range(many)]) for k in range(many)]
    for numbers in _numbers_by_exponents(polynomials):
        kept = _still_kept(kept, [_product(row, numbers) for row in kept])
    return kept


def _numbers_by_exponents(polynomials):
    """For all exponents that come up the numbers that stand there in each polynomial."""
    found = {}
    for k, p in enumerate(polynomials):
        for exponents, number in p:
            numbers = found.setdefault(exponents, [0] * len(polynomials))
            numbers[k] = number
    return list(found.values())


def _product(row, other):
    return sum([a * b for a, b in zip(row, other)])


def _still_kept(rows, worths):
    """Rows that come of some rows, and whose worths, which come of theirs, are 0."""
    for k, worth in enumerate(worths):
        if worth != 0:
            return [
                _least_row([worth * a - other * b for a, b in zip(row, rows[k])])
                for j, (row, other) in enumerate(zip(rows, worths)) if j != k
            ]
    return rows


def _least_row(row):
    common = 0
    for number in row:
        common = gcd(common, number)
    first = [number for number in row if number != 0][0]
    if first < 0:
        common = -common
    return tuple([number // common for number in row])
