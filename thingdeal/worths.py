"""Tables of worths, shares of things, and what things are worth to an heir."""

from thingdeal.errors import BadHeir, BadShares, BadTable, BadThing

MOST_HEIRS = 8
MOST_THINGS = 40
MOST_WORTH = 1000000


def is_number_below(value, limit):
    """Whether a value is a whole number from 0 to limit - 1."""
    # isinstance would take True and False for whole numbers.
    return type(value) is int and 0 <= value < limit


def is_list_below(value, limit):
    """Whether a value is a list of whole numbers from 0 to limit - 1."""
    return type(value) is list and all([is_number_below(item, limit) for item in value])


def need_table(table):
    """Refuse what is no table of worths."""
    if type(table) is not list or not 1 <= len(table) <= MOST_HEIRS:
        raise BadTable("a table is a list of 1 to 8 rows, one for each heir")
    for row in table:
        if not is_list_below(row, MOST_WORTH + 1):
            raise BadTable("a row is a list of whole numbers from 0 to 1000000")
    many = len(table[0])
    if many > MOST_THINGS:
        raise BadTable("a row has a worth for each of 0 to 40 things")
    for row in table:
        if len(row) != many:
            raise BadTable("each row has as many worths as the others")


def need_worths(worths, many):
    """Refuse what is no list of so many worths, a row or a column that a table could get."""
    if not is_list_below(worths, MOST_WORTH + 1) or len(worths) != many:
        raise BadTable("worths are a list of as many whole numbers from 0 to 1000000 as are asked for")


def need_parted(shares, many):
    """Refuse a list of shares, of however many heirs, that are no shares of so many things."""
    for share in shares:
        if not is_list_below(share, many):
            raise BadShares("a share is a list of numbers of things")
        if share != sorted(share):
            raise BadShares("the things of a share stand rising")
    held = [thing for share in shares for thing in share]
    if len(set(held)) != len(held):
        raise BadShares("a thing stands in one share at most, and once")


def need_shares(table, shares):
    """Refuse what is no table, then what are no shares of its things."""
    need_table(table)
    if type(shares) is not list or len(shares) != len(table):
        raise BadShares("shares are a list with one share for each heir")
    need_parted(shares, len(table[0]))


def need_heir(table, heir):
    """Refuse what is no number of an heir of a table."""
    if not is_number_below(heir, len(table)):
        raise BadHeir("an heir is told by its number, counted from nought")


def total(row, things):
    """What things come to by one heir's row of worths."""
    return sum([row[thing] for thing in things])


def worth(table, heir, things):
    """What a list of things is worth to an heir."""
    need_table(table)
    need_heir(table, heir)
    row = table[heir]
    if not is_list_below(things, len(row)) or len(set(things)) != len(things):
        raise BadThing("things are a list of different numbers of things")
    return total(row, things)
