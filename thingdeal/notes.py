"""Shares written as a text, and such a text read."""

from thingdeal.errors import BadNote, BadShares
from thingdeal.worths import MOST_HEIRS, MOST_THINGS, need_parted


def shown(shares):
    """The text of shares, with a row for each heir."""
    if type(shares) is not list or not 1 <= len(shares) <= MOST_HEIRS:
        raise BadShares("shares are a list with one share for each of 1 to 8 heirs")
    need_parted(shares, MOST_THINGS)
    rows = [" ".join([f"{heir}:"] + [str(thing) for thing in share]) for heir, share in enumerate(shares)]
    return "\n".join(rows)


def things_of_row(row, heir):
    """The numbers of things in an heir's row."""
    words = row.split(" ")
    if words[0] != f"{heir}:":
        raise BadNote("a row begins with its heir's number and a colon")
    # int would also take noughts ahead, signs, and figures of other scripts.
    numbers = [str(thing) for thing in range(MOST_THINGS)]
    for word in words[1:]:
        if word not in numbers:
            raise BadNote("behind each blank of a row stands the number of a thing")
    return [numbers.index(word) for word in words[1:]]


def read(text):
    """The shares of a text."""
    if type(text) is not str:
        raise BadNote("shares are read from a text")
    rows = text.split("\n")
    if len(rows) > MOST_HEIRS:
        raise BadNote("a text has rows for at most 8 heirs")
    shares = [things_of_row(row, heir) for heir, row in enumerate(rows)]
    try:
        need_parted(shares, MOST_THINGS)
    except BadShares as error:
        raise BadNote("things rise in each row and stand in one row at most") from error
    return shares
