"""One position in whole numbers that settles claims: the witness of a reach."""

from figureclaims.errors import TooGreat
from figureclaims.figures import whole_position, with_own
from figureclaims.making import step_made
from figureclaims.meaning import claim_holds, claim_numbers
from figureclaims.reaches import reach_of, size_of

MOST_SIZE = 300000

# A number that is no multiple of this one is not 0, which is told much sooner of a lesser number.
PRIME = 2 ** 61 - 1


def witness(reach):
    """The witness of a reach, a tuple of integers."""
    if size_of(reach) > MOST_SIZE:
        raise TooGreat()
    degrees, height = reach
    numbers = []
    for k in range(len(degrees)):
        numbers.append(height + 1 if k == 0 else _power(numbers[-1], degrees[k - 1] + 1))
    return tuple(numbers)


def triples_at(figure, numbers):
    """The list of the whole triples at a tuple of integers, ahead of the first that ends with 0, or of all."""
    triples = []
    for step, own in with_own(figure, whole_position(numbers)):
        triple = step_made(step, triples, own)
        if triple[2] == 0:
            return triples
        triples.append(triple)
    return triples


def holds_at(triples, claim):
    """Whether a claim holds by a list of whole triples, none of which ends with 0."""
    points = [triples[p] for p in claim[1:]]
    rests = [tuple([number % PRIME for number in point]) for point in points]
    if any([number % PRIME for number in claim_numbers(claim[0], rests)]):
        return False
    return claim_holds(claim[0], points)


def settled(figure, claim):
    """An answer for a claim, by the witness of the reach of the figure and this claim."""
    numbers = witness(reach_of(figure, (claim,)))
    triples = triples_at(figure, numbers)
    if len(triples) < len(figure):
        return "never", len(triples)
    if holds_at(triples, claim):
        return ("always",)
    return "not", whole_position(numbers)


def all_settled(figure, claims):
    """The numbers of those claims that always hold, or None if the figure can be built nowhere."""
    triples = triples_at(figure, witness(reach_of(figure, claims)))
    if len(triples) < len(figure):
        return None
    return [k for k, claim in enumerate(claims) if holds_at(triples, claim)]


def _power(number, exponent):
    power = 1
    for figure in f"{exponent:b}":
        power = power * power
        if figure == "1":
            power = power * number
    return power
