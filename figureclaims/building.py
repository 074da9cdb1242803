"""Figures built at positions, and what claims say of the places."""

from figureclaims.errors import NotBuilt
from figureclaims.figures import with_own
from figureclaims.making import step_made
from figureclaims.meaning import claim_holds
from figureclaims.vectors import place_at, triple_at


def made(figure, position):
    """The places ahead of the first step that can't be done at a position, or all."""
    places = []
    triples = []
    for step, own in with_own(figure, position):
        triple = step_made(step, triples, own)
        if triple[2] == 0:
            return places
        places.append(place_at(triple))
        # Taken from the place it has no common divisors left, which would grow from step to step.
        triples.append(triple_at(places[-1]))
    return places


def built(figure, position):
    """The places of all points of a figure that is built at a position."""
    places = made(figure, position)
    if len(places) < len(figure):
        raise NotBuilt(len(places))
    return places


def holds(places, claim):
    """Whether a claim holds of a list of places."""
    return claim_holds(claim[0], [triple_at(places[p]) for p in claim[1:]])
