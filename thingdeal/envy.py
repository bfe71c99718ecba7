"""Who envies whom, and whether all could bear it but for one thing."""

from thingdeal.errors import BadHeir
from thingdeal.worths import need_heir, need_shares, total


def prefers(row, others, own):
    """Whether another share is worth more than one's own by one's row of worths."""
    return total(row, others) > total(row, own)


def dearest(row, things):
    """Of rising things, at least one, the one worth most; of several the least number."""
    best = things[0]
    for thing in things:
        # Only what is worth more takes over, so the first of several stays.
        if row[thing] > row[best]:
            best = thing
    return best


def envies(table, shares):
    """The pairs of an heir and one whom it envies, by the heirs, then by the others."""
    need_shares(table, shares)
    pairs = []
    for heir, row in enumerate(table):
        for other, share in enumerate(shares):
            if prefers(row, share, shares[heir]):
                pairs.append((heir, other))
    return pairs


def spare(table, shares, heir, other):
    """The thing worth most to an heir in the share that it envies, or None."""
    need_shares(table, shares)
    need_heir(table, heir)
    need_heir(table, other)
    if heir == other:
        raise BadHeir("an heir has a spare with another heir only")
    if not prefers(table[heir], shares[other], shares[heir]):
        return None
    return dearest(table[heir], shares[other])


def borne(table, shares):
    """Whether each heir bears each other one."""
    for heir, other in envies(table, shares):
        row = table[heir]
        out = dearest(row, shares[other])
        rest = [thing for thing in shares[other] if thing != out]
        if prefers(row, rest, shares[heir]):
            return False
    return True
