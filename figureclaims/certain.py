"""What is certain of drawings: which steps can never be done, what always holds, and where it does not.

Numbers that seem to be drawn are put in for the unknowns, and all is worked
out but for multiples of a prime. What is not 0 then is not nought, for
certain; what is 0 then is hardly ever anything else, but is looked at in full.
"""

from figureclaims.figures import named
from figureclaims.making import step_made
from figureclaims.meaning import claim_numbers
from figureclaims.packing import packed_triples, triple_degree, triple_height
from figureclaims.polynomials import degrees_of
from figureclaims.putting import put_in
from figureclaims.rows import code_strides, times_cost, width_for
from figureclaims.table import degree_said, height_said, terms
from figureclaims.words import is_integer

# 1 less than the powers 61, 89, 107 and 127 of 2: more than one, as numbers may be multiples of a prime.
PRIMES = (
    2305843009213693951, 618970019642690137449562111, 162259276829213363391578010288127,
    170141183460469231731687303715884105727,
)

# What a term costs if a number is put in, in products of digits as times_cost counts them.
TERM_COST = 600

# About so many products a claim takes.
PRODUCTS = 4

# What holds of which of the points that a step names if and only if it cannot be done.
HINDRANCES = {
    "meet": ("parallel", (0, 1, 2, 3)), "middle": ("line", (0, 1, 2)),
    "foot": ("same", (1, 2)), "mirror": ("same", (1, 2)), "second": ("same", (1, 2)),
    "other": ("same", (0, 1)), "inverse": ("same", (0, 1)),
}


class Guess:
    """Numbers put in for the unknowns of drawings, and a prime whose multiples are left out."""

    def __init__(self, numbers, prime):
        self.numbers = numbers
        self.prime = prime

    def with_number(self, k, number):
        """The guess that has another number for the unknown k."""
        return Guess(self.numbers[:k] + (number,) + self.numbers[k + 1:], self.prime)

    def rest(self, number):
        """What is left of an integer."""
        return number % self.prime

    def value(self, p):
        """What is left of the value of a polynomial."""
        degrees = degrees_of(len(self.numbers), p)
        worths = [self._powers(number, degree) for number, degree in zip(self.numbers, degrees)]
        total = 0
        for exponents, number in p:
            worth = self.rest(number)
            for powers, exponent in zip(worths, exponents):
                worth = self.rest(worth * powers[exponent])
            total = total + worth
        return self.rest(total)

    def triples(self, drawing):
        """What is left of a drawing's triples, ahead of the first one that ends with 0, or of all."""
        triples = []
        for step, own in zip(drawing.figure, drawing.own):
            parameters = [(self.numbers[worth], 1) if is_integer(worth) else worth for worth in own]
            triple = [self.rest(number) for number in step_made(step, triples, parameters)]
            if triple[2] == 0:
                return triples
            triples.append(triple)
        return triples

    def denies(self, word, points):
        """Whether a claim with a word for certain does not hold of triples."""
        return any([self.rest(number) for number in claim_numbers(word, points)])

    def _powers(self, number, most):
        powers = [1]
        for _ in range(most):
            powers.append(self.rest(powers[-1] * number))
        return powers


def guess_of(seed, many):
    """A guess for so many unknowns, another one for each seed."""
    numbers = []
    number = seed + 6364136223846793005
    for _ in range(many):
        # Not just times a number: points that run straight ahead would stand on one line for all guesses.
        number = (number * number * number + 1442695040888963407) % PRIMES[0]
        numbers.append(number)
    return Guess(tuple(numbers), PRIMES[seed % len(PRIMES)])


def first_never(drawing):
    """The number of the first step that can be done nowhere, or None."""
    seed = 0
    while True:
        k = len(guess_of(seed, drawing.many).triples(drawing))
        if k == len(drawing.figure):
            return None
        if _is_hindered(drawing, drawing.figure[k]):
            return k
        seed += 1


def holds_always(drawing, claim):
    """Whether a claim always holds of points of a drawing, no W ahead of them being nought."""
    guess = guess_of(0, drawing.many)
    triples = guess.triples(drawing)
    if max(claim[1:]) < len(triples) and _is_denied(guess, triples, claim):
        return False
    return says_nothing(drawing.many, claim[0], drawing.triples(claim[1:]))


def twins_of(drawing):
    """For each point of a drawing that can be built somewhere the first one that is always the same."""
    twins = []
    for k in range(len(drawing.figure)):
        firsts = [j for j in range(k) if twins[j] == j and holds_always(drawing, ("same", j, k))]
        twins.append(firsts[0] if firsts else k)
    return twins


def place_where(drawing, fits):
    """The least numbers for the unknowns, one after another, with which a drawing is built and fits.

    fits tells of a guess and its triples whether some polynomials, none of them nought, are not 0.
    No number is above what the degrees of these and of all W's in its unknown are together, as
    there are no more numbers with which one of them is nought.
    """
    seed = 0
    guess = guess_of(seed, drawing.many)
    while not _is_built(drawing, guess, fits):
        seed += 1
        guess = guess_of(seed, drawing.many)
    for k in range(drawing.many):
        n = 0
        while not _is_built(drawing, guess.with_number(k, n), fits):
            n += 1
        guess = guess.with_number(k, n)
    return guess.numbers


def place_without(drawing, claims):
    """The place, as place_where tells it, with which none of some claims holds that do not always hold."""
    return place_where(drawing, lambda guess, triples: all([
        _is_denied(guess, triples, claim) for claim in claims
    ]))


def _is_denied(guess, triples, claim):
    """Whether a claim for certain does not hold of the points with its numbers."""
    return guess.denies(claim[0], [triples[p] for p in claim[1:]])


def _is_built(drawing, guess, fits):
    """Whether a drawing is built for a guess, and fits."""
    triples = guess.triples(drawing)
    return len(triples) == len(drawing.figure) and fits(guess, triples)


def _is_hindered(drawing, step):
    """Whether a step can be done nowhere, all of those before it being done somewhere."""
    if step[0] not in HINDRANCES:
        return False
    word, members = HINDRANCES[step[0]]
    points = named(step)
    return holds_always(drawing, (word,) + tuple([points[k] for k in members]))


def says_nothing(m, word, points):
    """Whether all polynomials in m unknowns of a claim, by triples of such, are nought."""
    degree = degree_said(word, [triple_degree(m, triple) for triple in points])
    width = width_for(height_said(word, [triple_height(triple) for triple in points]))
    if m == 0 or not _is_sooner_put_in(degree, width, points):
        return not any(claim_numbers(word, packed_triples(points, code_strides(degree), width)))
    # A polynomial that is nought with more numbers put in than its degree tells is nought itself.
    for n in range(degree[0] + 1):
        if not says_nothing(m - 1, word, [tuple([put_in(p, 0, n) for p in triple]) for triple in points]):
            return False
    return True


def _is_sooner_put_in(degree, width, points):
    """Whether numbers are put in for the first unknown sooner than all is worked out at once.

    points are triples of polynomials; a claim has a degree, and numbers so wide.
    """
    figures = width * terms(degree)
    many = degree[0] + 1
    count = sum([len(p) for triple in points for p in triple])
    each = count * (TERM_COST + times_cost(width)) + PRODUCTS * times_cost(figures // many)
    return many * each < PRODUCTS * times_cost(figures)
