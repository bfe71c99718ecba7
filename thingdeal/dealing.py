"""All things of a table dealt to its heirs, or picked by them in turn."""

from thingdeal.envy import dearest
from thingdeal.errors import BadOrder
from thingdeal.giving import awarded
from thingdeal.worths import is_list_below, need_table


def dealt(table):
    """Shares of all things, given by their numbers."""
    need_table(table)
    shares = [[] for _ in table]
    for thing in range(len(table[0])):
        shares = awarded(table, shares, thing)
    return shares


def need_order(table, order):
    """Refuse what is no list of all heirs of a table, each once."""
    if not is_list_below(order, len(table)) or sorted(order) != list(range(len(table))):
        raise BadOrder("an order is a list of all heirs, each once")


def picked(table, order):
    """Shares of all things, each heir picking in its turn what is worth most to it."""
    need_table(table)
    need_order(table, order)
    shares = [[] for _ in table]
    aside = list(range(len(table[0])))
    for turn in range(len(table[0])):
        heir = order[turn % len(order)]
        thing = dearest(table[heir], aside)
        aside.remove(thing)
        shares[heir].append(thing)
    return [sorted(share) for share in shares]
