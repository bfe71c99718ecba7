"""Giving a thing that lies aside, so that shares that were borne are borne with it."""

from thingdeal.envy import envies
from thingdeal.errors import BadThing
from thingdeal.rings import ring, turned, unenvied
from thingdeal.worths import is_number_below, need_shares


def need_aside(table, shares, thing):
    """Refuse what is no table, then what are no shares, then what is no thing that lies aside."""
    need_shares(table, shares)
    if not is_number_below(thing, len(table[0])):
        raise BadThing("a thing is told by its number, counted from nought")
    if any([thing in share for share in shares]):
        raise BadThing("a thing that an heir has does not lie aside")


def steps(table, shares, thing):
    """The steps by which a thing is given: rings to turn, then the heir who gets it."""
    need_aside(table, shares, thing)
    told = []
    held = shares
    heirs = ring(table, held)
    while heirs is not None:
        told.append(("ring", tuple(heirs)))
        held = turned(table, held, heirs)
        heirs = ring(table, held)
    # Without a ring there is a line, and nobody envies its first heir.
    taker = unenvied(envies(table, held), list(range(len(table))))
    told.append(("give", thing, taker))
    return told


def awarded(table, shares, thing):
    """New shares, with a thing given."""
    told = steps(table, shares, thing)
    held = [list(share) for share in shares]
    for _, heirs in told[:-1]:
        held = turned(table, held, list(heirs))
    taker = told[-1][2]
    held[taker] = sorted(held[taker] + [thing])
    return held
