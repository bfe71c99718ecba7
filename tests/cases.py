"""What several tests hand in: tables, shares, and things that are neither.

The random source has a fixed seed, so each run sees the same cases.
"""

import copy
import itertools
import random

MOST = 1000000


class Unlike:
    """An object that is no value of the program's, and answers no comparison."""

    def __eq__(self, other):
        raise RuntimeError("compared")

    def __hash__(self):
        raise RuntimeError("hashed")

    def __len__(self):
        raise RuntimeError("measured")

    def __iter__(self):
        raise RuntimeError("iterated")

    def __repr__(self):
        raise RuntimeError("shown")


def endless():
    """A list that holds itself."""
    rows = []
    rows.append(rows)
    return rows


# What is no whole number; none of it may be taken for 0 or 1.
NO_NUMBERS = [True, False, None, "0", "", "a", b"0", 0.0, 1.0, float("nan"), 1j,
              [], [0], (), (0,), {}, {0: 0}, {0}, range(1), int, Unlike(), endless()]

# What is no list, though some of it holds what a list of numbers would.
NO_LISTS = [(), (0,), (0, 1), ((0,), (1,)), None, True, False, 0, 1, -1, 1.0, "", "0", "01", b"", b"01",
            {}, {0: 0}, {0: [0], 1: [1]}, set(), {0, 1}, frozenset(), range(2), iter([0, 1]), list, Unlike()]


def unlisted(rows):
    """What holds the same as a list, but is none."""
    return [tuple(rows), dict(enumerate(rows)), iter(rows), (row for row in rows)]


def with_item(rows, at, item):
    """Rows with another item at one place."""
    return rows[:at] + [item] + rows[at + 1:]


def with_cell(rows, at, within, cell):
    """Rows with another cell at one place of one row."""
    return with_item(rows, at, with_item(rows[at], within, cell))


def a_table(chance, heirs, things, most=MOST):
    """A table, in which nought and the most stand more often than by chance."""
    return [[chance.choice([0, most, chance.randint(0, most), chance.randint(0, most)]) for _ in range(things)]
            for _ in range(heirs)]


def some_shares(chance, heirs, things, aside):
    """Shares in which about aside in ten things lie aside."""
    shares = [[] for _ in range(heirs)]
    for thing in range(things):
        if chance.randrange(10) >= aside:
            shares[chance.randrange(heirs)].append(thing)
    return shares


def mixed_cases():
    """Tables and shares of every size, with worths from many alike to all different."""
    chance = random.Random(20)
    cases = []
    for heirs in range(1, 9):
        for things in [0, 1, 2, 3, 5, 8, 13, 40]:
            for most, aside in [(1, 0), (3, 2), (MOST, 0), (MOST, 5), (2, 10)]:
                cases.append((a_table(chance, heirs, things, most), some_shares(chance, heirs, things, aside)))
    return cases


def small_cases():
    """All shares of up to three things among up to three heirs, by a few tables."""
    chance = random.Random(21)
    cases = []
    for heirs in [1, 2, 3]:
        for things in [0, 1, 2, 3]:
            tables = [a_table(chance, heirs, things, most) for most in [1, 2, 9]]
            for owners in itertools.product(range(heirs + 1), repeat=things):
                shares = [[thing for thing in range(things) if owners[thing] == heir] for heir in range(heirs)]
                cases.extend((table, shares) for table in tables)
    return cases


def all_cases():
    return mixed_cases() + small_cases()


def ring_case(ring, heirs):
    """As many things as heirs, one each, where each of the ring wants but what the next one has."""
    table = [[1 if thing == heir else 0 for thing in range(heirs)] for heir in range(heirs)]
    for heir, after in with_next(ring):
        table[heir][after] = 2
    return table, [[heir] for heir in range(heirs)]


def line_case(order):
    """As many things as heirs, one each, where each envies just those behind it in the order."""
    table = [[0] * len(order) for _ in order]
    for place, heir in enumerate(order):
        for behind, other in enumerate(order):
            table[heir][other] = 1 if behind <= place else 2
    return table, [[heir] for heir in range(len(order))]


def with_next(ring):
    return list(zip(ring, ring[1:] + ring[:1]))


def put_in_rings():
    """Rings of every length among every number of heirs, in a few orders."""
    chance = random.Random(22)
    found = []
    for heirs in range(2, 9):
        for length in range(2, heirs + 1):
            found.extend((chance.sample(range(heirs), length), heirs) for _ in range(3))
        found.append((list(range(heirs)), heirs))
        found.append((list(range(heirs))[::-1], heirs))
    return found


def worth_by_hand(row, share):
    come = 0
    for thing in share:
        come += row[thing]
    return come


def envies_by_hand(table, shares, heir, other):
    return worth_by_hand(table[heir], shares[other]) > worth_by_hand(table[heir], shares[heir])


def pairs_by_hand(table, shares):
    heirs = range(len(table))
    return [(heir, other) for heir in heirs for other in heirs
            if heir != other and envies_by_hand(table, shares, heir, other)]


def pairs_of(heirs):
    return [(heir, other) for heir in range(heirs) for other in range(heirs) if heir != other]


def bears_by_trying(table, shares, heir, other):
    """Whether there is no envy, or there is one thing without which there would be none."""
    if not envies_by_hand(table, shares, heir, other):
        return True
    own = worth_by_hand(table[heir], shares[heir])
    return any(worth_by_hand(table[heir], [thing for thing in shares[other] if thing != out]) <= own
               for out in shares[other])


def borne_by_trying(table, shares):
    return all(bears_by_trying(table, shares, heir, other) for heir, other in pairs_of(len(table)))


def turns_of(found):
    """A ring told from each of its heirs on."""
    return [found[at:] + found[:at] for at in range(len(found))]


def is_ring_by_words(table, shares, heirs):
    return (len(heirs) >= 2 and len(set(heirs)) == len(heirs)
            and all(envies_by_hand(table, shares, heir, after) for heir, after in with_next(heirs)))


def has_ring_by_hand(table, shares):
    """Whether some heirs are left when all who envy nobody that is left are taken away."""
    pairs = pairs_by_hand(table, shares)
    left = list(range(len(table)))
    while left:
        stuck = [heir for heir in left if any((heir, other) in pairs for other in left)]
        if stuck == left:
            return True
        left = stuck
    return False


def turned_by_hand(shares, heirs):
    wanted = {heir: shares[after] for heir, after in with_next(heirs)}
    return [list(wanted.get(heir, share)) for heir, share in enumerate(shares)]


def least_unenvied(table, shares):
    envied = [other for _, other in pairs_by_hand(table, shares)]
    return min(heir for heir in range(len(table)) if heir not in envied)


def given_by_hand(shares, heir, thing):
    return with_item(shares, heir, sorted(shares[heir] + [thing]))


def things_aside(table, shares):
    held = [thing for share in shares for thing in share]
    return [thing for thing in range(len(table[0])) if thing not in held]


def given_to_one_mind(row, shares, thing):
    """Where all have the same worths there is no ring, and the poorest share is the one not envied."""
    come = [worth_by_hand(row, share) for share in shares]
    return given_by_hand(shares, come.index(min(come)), thing)


def given_to_two(table, shares, thing):
    """Among two heirs there is one ring at most: both envy, and swap."""
    if has_ring_by_hand(table, shares):
        shares = shares[::-1]
    return given_by_hand(shares, least_unenvied(table, shares), thing)


GOOD_TABLE = [[5, 0, 1000000], [1, 2, 3], [0, 0, 0]]
GOOD_SHARES = [[2], [0, 1], []]


def bad_tables():
    """Tables with just one thing wrong each, at every place."""
    good = GOOD_TABLE
    found = list(NO_LISTS) + [[], [[0]] * 9, [[]] * 9, [[0] * 41], [[0] * 41] * 8, [[0] * 1000] * 2, endless()]
    found.extend(unlisted(good))
    for at in range(3):
        found.extend(with_item(good, at, row) for row in NO_LISTS)
        found.extend(with_item(good, at, row) for row in [[], [1], [1, 2], [1, 2, 3, 4], [0] * 41, [[1, 2, 3]]])
        found.extend(with_item(good, at, row) for row in unlisted([1, 2, 3]) + [range(3), b"123", "123", {1, 2, 3}])
        for within in range(3):
            for cell in NO_NUMBERS + [-1, 1000001, -1000000, 10 ** 30, -10 ** 30]:
                found.append(with_cell(good, at, within, cell))
    found.append([[0, 1], [0, 1], [0, 1, 2]])
    found.append([[]] * 7 + [[0]])
    found.append([[0] * 40] * 7 + [[0] * 39 + [1000001]])
    found.append([[0] * 40] * 7 + [[0] * 39 + [-1]])
    return found


def bad_shares():
    """What are no shares of GOOD_TABLE, with just one thing wrong each."""
    good = GOOD_SHARES
    found = list(NO_LISTS) + [endless(), [], [[0]], [[0], [1]], [[0], [1], [2], []], [[], [], [], []]]
    found.extend(unlisted(good))
    for at in range(3):
        found.extend(with_item([[], [], []], at, share) for share in NO_LISTS + unlisted([0, 2]))
        for odd in NO_NUMBERS + [-1, -2, -3, 3, 4, 40, 10 ** 30, -10 ** 30]:
            found.append(with_item([[], [], []], at, [odd]))
            found.append(with_item([[], [], []], at, [0, odd]))
            found.append(with_item([[], [], []], at, [odd, 2]))
        # A thing twice in one share, or things that don't rise.
        for share in [[0, 0], [2, 2], [1, 0], [2, 0], [0, 2, 1], [2, 1, 0], [0, 1, 1], [0, 1, 2, 0], [1, 0, 2]]:
            found.append(with_item([[], [], []], at, share))
    for one, two in itertools.combinations(range(3), 2):
        # A thing in two shares.
        for thing in range(3):
            found.append(with_item(with_item([[], [], []], one, [thing]), two, [thing]))
        found.append(with_item(with_item([[], [], []], one, [0, 1]), two, [1, 2]))
        found.append(with_item(with_item([[], [], []], one, [0, 1, 2]), two, [0, 1, 2]))
    found.append(with_item(good, 2, [0]))
    found.append(with_item(good, 0, [2, 3]))
    found.append(good + [[]])
    found.append(good[:2])
    return found


def same_before_and_after(call, *handed):
    """What a call answers, and whether what it was handed is the same afterwards."""
    before = copy.deepcopy(handed)
    answer = call(*handed)
    return answer, list(before) == list(handed)
