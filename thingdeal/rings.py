"""Rings of heirs who envy one another, how they are turned, and lines of all heirs."""

from thingdeal.envy import envies
from thingdeal.errors import BadRing
from thingdeal.worths import is_list_below


def unenvied(pairs, heirs):
    """The first of heirs whom none of them envies, or None."""
    for other in heirs:
        if not any([(heir, other) in pairs for heir in heirs]):
            return other
    return None


def front_of_line(pairs, many):
    """As much of a line as there is, its first heir first."""
    front = []
    left = list(range(many))
    found = unenvied(pairs, left)
    while found is not None:
        front.append(found)
        left.remove(found)
        found = unenvied(pairs, left)
    return front


def ring_among(pairs, heirs):
    """A ring of some of heirs, each of whom another one of them envies."""
    walked = []
    heir = heirs[0]
    # Each heir has one that envies it, so a walk from envied to envying comes round.
    while heir not in walked:
        walked.append(heir)
        heir = [other for other in heirs if (other, heir) in pairs][0]
    found = walked[walked.index(heir):]
    # The walk went against the envy, and a ring goes along with it.
    return found[::-1]


def ring(table, shares):
    """A ring, or None where there is a line."""
    pairs = envies(table, shares)
    front = front_of_line(pairs, len(table))
    left = [heir for heir in range(len(table)) if heir not in front]
    if not left:
        return None
    return ring_among(pairs, left)


def line(table, shares):
    """A line, or None where there is a ring."""
    pairs = envies(table, shares)
    front = front_of_line(pairs, len(table))
    if len(front) < len(table):
        return None
    return front


def with_next_ones(heirs):
    """Pairs of each heir of a ring and the next one, the first one behind the last."""
    return list(zip(heirs, heirs[1:] + heirs[:1]))


def is_ring(pairs, many, heirs):
    """Whether heirs are a list of different heirs each of whom envies the next one."""
    if not is_list_below(heirs, many) or len(heirs) < 2:
        return False
    if len(set(heirs)) != len(heirs):
        return False
    return all([pair in pairs for pair in with_next_ones(heirs)])


def turned(table, shares, heirs):
    """New shares, where each of a ring has the share that the next one had."""
    pairs = envies(table, shares)
    if not is_ring(pairs, len(table), heirs):
        raise BadRing("a ring is a list of two or more different heirs, each envying the next one")
    moved = [list(share) for share in shares]
    for heir, giver in with_next_ones(heirs):
        moved[heir] = list(shares[giver])
    return moved
