"""Point 12, and the interface's thingdeal/estate.py."""

import copy
import random
import unittest

import cases
from refusals import RefusalCase
from thingdeal.dealing import dealt
from thingdeal.estate import Estate


def estate_of(table):
    """An estate to which all things of a table came."""
    estate = Estate(len(table))
    for thing in range(len(table[0])):
        estate.come([row[thing] for row in table])
    return estate


class Witness:
    """What an estate's table must be by its deeds, and how often each deed was done."""

    def __init__(self, test, heirs):
        self.test = test
        self.estate = Estate(heirs)
        self.table = [[] for _ in range(heirs)]
        self.done = {"come": 0, "join": 0, "first goes": 0, "one between goes": 0, "last goes": 0}

    def check_standing(self):
        """The table is the one of the deeds, all things stand in shares, and these are borne."""
        shares = self.estate.shares()
        self.test.assertEqual(self.estate.table(), self.table)
        self.test.assertEqual(len(shares), len(self.table))
        for share in shares:
            self.test.assertEqual(share, sorted(share))
        self.test.assertEqual(sorted(thing for share in shares for thing in share), list(range(len(self.table[0]))))
        self.test.assertTrue(cases.borne_by_trying(self.table, shares), (self.table, shares))
        return shares

    def check_nobody_lost(self, were):
        """No share is worth less than those that the same heirs had."""
        for row, was, share in zip(self.table, were, self.check_standing()):
            self.test.assertGreaterEqual(cases.worth_by_hand(row, share), cases.worth_by_hand(row, was))

    def come(self, worths):
        were = self.estate.shares()
        number = self.estate.come(worths)
        self.test.assertEqual((type(number), number), (int, len(self.table[0])))
        self.table = [row + [added] for row, added in zip(self.table, worths)]
        self.check_nobody_lost(were)
        self.done["come"] += 1

    def go(self, heir):
        were = self.estate.shares()
        self.test.assertIsNone(self.estate.go(heir))
        self.done["first goes" if heir == 0 else "last goes" if heir == len(were) - 1 else "one between goes"] += 1
        self.table = self.table[:heir] + self.table[heir + 1:]
        self.check_nobody_lost(were[:heir] + were[heir + 1:])

    def join(self, worths):
        number = self.estate.join(worths)
        self.test.assertEqual((type(number), number), (int, len(self.table)))
        self.table = self.table + [list(worths)]
        self.test.assertEqual(self.check_standing(), dealt(self.table))
        self.done["join"] += 1


def some_worths(chance, many):
    most = chance.choice([1, 4, cases.MOST])
    return cases.a_table(chance, 1, many, most)[0]


def deed_by_chance(chance, witness, comes):
    """Of ten deeds, about so many things that come; else an heir goes or joins."""
    heirs, things = len(witness.table), len(witness.table[0])
    if things < 40 and chance.randrange(10) < comes:
        witness.come(some_worths(chance, heirs))
    elif heirs > 1 and (heirs == 8 or chance.randrange(2)):
        witness.go(chance.randrange(heirs))
    elif heirs < 8:
        witness.join(some_worths(chance, things))


class DeedsTest(unittest.TestCase):
    def test_deeds_by_chance(self):
        chance = random.Random(50)
        done = {}
        for _ in range(60):
            witness = Witness(self, chance.randint(1, 8))
            comes = chance.choice([4, 7, 9])
            for _ in range(30):
                deed_by_chance(chance, witness, comes)
            done = {deed: done.get(deed, 0) + many for deed, many in witness.done.items()}
        self.assertGreater(min(done.values()), 50, done)

    def test_up_to_eight_heirs_and_forty_things(self):
        chance = random.Random(51)
        witness = Witness(self, 1)
        for heirs in range(1, 9):
            for _ in range(5):
                witness.come(some_worths(chance, heirs))
            if heirs < 8:
                witness.join(some_worths(chance, 5 * heirs))
        self.assertEqual((len(witness.table), len(witness.table[0])), (8, 40))
        for heir in [0, 6, 3, 0, 2, 1, 0]:
            witness.go(heir)
        self.assertEqual(witness.estate.shares(), [list(range(40))])
        for _ in range(7):
            witness.join(some_worths(chance, 40))
        self.assertEqual(len(witness.table), 8)

    def test_heirs_go_with_forty_things(self):
        chance = random.Random(52)
        for heirs in range(2, 9):
            for heir in range(heirs):
                witness = Witness(self, heirs)
                witness.estate = estate_of(cases.a_table(chance, heirs, 40))
                witness.table = witness.estate.table()
                witness.go(heir)

    def test_an_estate_begins_without_things(self):
        for heirs in range(1, 9):
            estate = Estate(heirs)
            self.assertEqual(estate.shares(), [[]] * heirs)
            self.assertEqual(estate.table(), [[]] * heirs)

    def test_numbers_of_things(self):
        for heirs in [1, 3, 8]:
            estate = Estate(heirs)
            self.assertEqual([estate.come([1] * heirs) for _ in range(40)], list(range(40)))

    def test_numbers_of_things_go_on_behind_other_deeds(self):
        estate = Estate(2)
        self.assertEqual(estate.come([1, 2]), 0)
        estate.go(0)
        self.assertEqual(estate.come([3]), 1)
        self.assertEqual(estate.join([4, 5]), 1)
        self.assertEqual(estate.come([6, 7]), 2)
        self.assertEqual(estate.table(), [[2, 3, 6], [4, 5, 7]])

    def test_numbers_of_heirs(self):
        estate = Estate(1)
        self.assertEqual([estate.join([]) for _ in range(7)], [1, 2, 3, 4, 5, 6, 7])
        estate.go(4)
        self.assertEqual(estate.join([]), 7)
        estate.come([0, 1, 2, 3, 4, 5, 6, 7])
        for heir in [7, 2, 0]:
            estate.go(heir)
        self.assertEqual(estate.table(), [[1], [3], [4], [5], [6]])
        self.assertEqual(estate.join([9]), 5)
        self.assertEqual(estate.table(), [[1], [3], [4], [5], [6], [9]])


class ComeTest(unittest.TestCase):
    def test_heirs_of_one_mind(self):
        chance = random.Random(53)
        for heirs in range(1, 9):
            for most in [1, 6, cases.MOST]:
                estate, row, shares = Estate(heirs), [], [[] for _ in range(heirs)]
                for thing in range(20):
                    row.append(chance.randint(0, most))
                    estate.come([row[thing]] * heirs)
                    shares = cases.given_to_one_mind(row, shares, thing)
                    self.assertEqual(estate.shares(), shares)

    def test_two_heirs(self):
        chance = random.Random(54)
        for most in [1, 2, 5, cases.MOST]:
            table = cases.a_table(chance, 2, 40, most)
            estate, shares = Estate(2), [[], []]
            for thing in range(40):
                estate.come([table[0][thing], table[1][thing]])
                shares = cases.given_to_two(table, shares, thing)
                self.assertEqual(estate.shares(), shares)

    def test_examples(self):
        estate = Estate(2)
        estate.come([1, 2])
        self.assertEqual(estate.shares(), [[0], []])
        estate.come([2, 1])
        self.assertEqual(estate.shares(), [[0], [1]])
        # Each wants what the other one has: they swap ahead of the third thing.
        estate.come([0, 0])
        self.assertEqual(estate.shares(), [[1, 2], [0]])
        self.assertEqual(estate.table(), [[1, 2, 0], [2, 1, 0]])


class GoTest(unittest.TestCase):
    def test_heirs_of_one_mind(self):
        chance = random.Random(55)
        for heirs in range(2, 9):
            for heir in range(heirs):
                row = [chance.randint(0, 30) for _ in range(25)]
                estate = estate_of([row] * heirs)
                were = estate.shares()
                shares = were[:heir] + were[heir + 1:]
                for thing in were[heir]:
                    shares = cases.given_to_one_mind(row, shares, thing)
                estate.go(heir)
                self.assertEqual(estate.shares(), shares)
                self.assertEqual(estate.table(), [row] * (heirs - 1))

    def test_two_heirs_stay(self):
        chance = random.Random(56)
        for most in [1, 2, 5, cases.MOST]:
            for heir in [0, 1, 2] * 10:
                table = cases.a_table(chance, 3, 12, most)
                estate = estate_of(table)
                were = estate.shares()
                left = table[:heir] + table[heir + 1:]
                shares = were[:heir] + were[heir + 1:]
                for thing in were[heir]:
                    shares = cases.given_to_two(left, shares, thing)
                estate.go(heir)
                self.assertEqual((estate.table(), estate.shares()), (left, shares))

    def test_an_heir_without_things_goes_and_nothing_is_turned(self):
        # Both others want what the other one has; but nothing is given, so they don't swap.
        estate = Estate(3)
        estate.come([1, 2, 0])
        estate.come([2, 1, 0])
        self.assertEqual(estate.shares(), [[0], [1], []])
        estate.go(2)
        self.assertEqual(estate.shares(), [[0], [1]])
        self.assertEqual(estate.table(), [[1, 2], [2, 1]])

    def test_all_go_but_one(self):
        for last in range(4):
            estate = estate_of([[heir, 1, 2] for heir in range(4)])
            for _ in range(last):
                estate.go(0)
            for heir in range(3 - last, 0, -1):
                estate.go(heir)
            self.assertEqual(estate.table(), [[last, 1, 2]])
            self.assertEqual(estate.shares(), [[0, 1, 2]])


class JoinTest(unittest.TestCase):
    def test_all_is_dealt_anew(self):
        chance = random.Random(57)
        for heirs in range(1, 8):
            for things in [0, 1, 5, 17, 40]:
                table = cases.a_table(chance, heirs + 1, things, 9)
                estate = estate_of(table[:-1])
                self.assertEqual(estate.join(table[-1]), heirs)
                self.assertEqual(estate.table(), table)
                self.assertEqual(estate.shares(), dealt(table))

    def test_heirs_of_one_mind(self):
        chance = random.Random(58)
        for heirs in range(1, 8):
            row = [chance.randint(0, 9) for _ in range(20)]
            shares = [[] for _ in range(heirs + 1)]
            for thing in range(20):
                shares = cases.given_to_one_mind(row, shares, thing)
            estate = estate_of([row] * heirs)
            estate.join(row)
            self.assertEqual(estate.shares(), shares)

    def test_what_was_ahead_of_it_does_not_count(self):
        # An heir went, so the two who stay have other shares than those of a new deal.
        row = [5, 4, 3, 2, 1]
        estate = estate_of([row] * 3)
        estate.go(0)
        self.assertNotEqual(estate.shares(), dealt([row] * 2))
        estate.join(row)
        self.assertEqual(estate.shares(), dealt([row] * 3))

    def test_a_share_may_be_worth_less(self):
        estate = Estate(1)
        estate.come([5])
        estate.come([3])
        self.assertEqual(estate.join([5, 3]), 1)
        self.assertEqual(estate.shares(), [[0], [1]])


class SideBySideTest(unittest.TestCase):
    def test_two_estates(self):
        one, two = Estate(2), Estate(2)
        one.come([1, 2])
        self.assertEqual((two.table(), two.shares()), ([[], []], [[], []]))
        two.come([7, 8])
        two.come([9, 9])
        self.assertEqual((one.table(), one.shares()), ([[1], [2]], [[0], []]))
        two.go(0)
        one.join([3])
        self.assertEqual((one.table(), one.shares()), ([[1], [2], [3]], [[0], [], []]))
        self.assertEqual((two.table(), two.shares()), ([[8, 9]], [[0, 1]]))

    def test_by_turns_they_do_as_each_alone(self):
        chance = random.Random(59)
        together = [Witness(self, 3), Witness(self, 3)]
        for at in range(60):
            deed_by_chance(chance, together[at % 2], 6)
            # The other one stays as it was.
            together[1 - at % 2].check_standing()


class EstateRefusalsTest(RefusalCase):
    def refused_unchanged(self, kind, estate, deed, handed):
        """A deed is refused so, and the estate is the same behind it."""
        ahead = (estate.table(), estate.shares())
        self.refused(kind, getattr(estate, deed), handed)
        self.assertEqual((estate.table(), estate.shares()), ahead)

    def some_estates(self):
        """Of one heir up to all eight, without things, with some and with all."""
        chance = random.Random(60)
        return [estate_of(cases.a_table(chance, heirs, things)) for heirs in [1, 2, 3, 8] for things in [0, 1, 3, 40]]

    def bad_worths(self, many):
        """What is no list of so many worths."""
        good = [5] * many
        found = list(cases.NO_LISTS) + cases.unlisted(good) + [cases.endless(), [good]]
        found.extend([5] * wrong for wrong in {0, many - 1, many + 1, many + 2, 41, 100} if 0 <= wrong != many)
        for at in {0, many // 2, many - 1} if many else []:
            for odd in cases.NO_NUMBERS + [-1, 1000001, -1000000, 10 ** 30, -10 ** 30]:
                found.append(cases.with_item(good, at, odd))
        return found

    def test_heirs_of_an_estate(self):
        for heirs in cases.NO_NUMBERS + [0, -1, -8, 9, 10, 40, 10 ** 30, -10 ** 30]:
            self.refused("BadHeir", Estate, heirs)

    def test_who_goes(self):
        for estate in self.some_estates():
            heirs = len(estate.table())
            for heir in cases.NO_NUMBERS + [-1, -heirs, heirs, heirs + 1, 10 ** 30, -10 ** 30]:
                self.refused_unchanged("BadHeir", estate, "go", heir)

    def test_the_only_heir_stays(self):
        for things in [0, 1, 40]:
            estate = estate_of([[3] * things])
            self.refused_unchanged("BadHeir", estate, "go", 0)
        estate = estate_of([[1, 2], [2, 1]])
        estate.go(1)
        self.refused_unchanged("BadHeir", estate, "go", 0)
        self.refused_unchanged("BadHeir", estate, "go", 1)

    def test_no_list_of_worths_comes(self):
        # Where the estate is full, too: the worths are looked at first.
        for estate in self.some_estates():
            for worths in self.bad_worths(len(estate.table())):
                self.refused_unchanged("BadTable", estate, "come", worths)

    def test_no_list_of_worths_joins(self):
        for estate in self.some_estates():
            for worths in self.bad_worths(len(estate.table()[0])):
                self.refused_unchanged("BadTable", estate, "join", worths)

    def test_a_forty_first_thing(self):
        for heirs in [1, 2, 8]:
            estate = estate_of([[3] * 39] * heirs)
            self.assertEqual(estate.come([4] * heirs), 39)
            for worths in [[4] * heirs, [0] * heirs, [1000000] * heirs]:
                self.refused_unchanged("Full", estate, "come", worths)

    def test_a_ninth_heir(self):
        for things in [0, 1, 40]:
            estate = estate_of([[3] * things] * 7)
            self.assertEqual(estate.join([4] * things), 7)
            for worths in [[4] * things, [0] * things, [1000000] * things]:
                self.refused_unchanged("Full", estate, "join", worths)

    def test_what_is_full_goes_on_where_there_is_room(self):
        estate = estate_of([[3] * 40] * 8)
        self.refused_unchanged("Full", estate, "come", [1] * 8)
        self.refused_unchanged("Full", estate, "join", [1] * 40)
        estate.go(5)
        self.refused_unchanged("Full", estate, "come", [1] * 7)
        self.assertEqual(estate.join([1] * 40), 7)

    def test_edges_are_not_refused(self):
        estate = Estate(8)
        self.assertEqual(estate.come([0, 1000000] * 4), 0)
        estate.go(7)
        self.assertEqual(estate.join([1000000]), 7)
        estate.go(0)
        self.assertEqual(estate.join([0]), 7)

    def test_deeds_go_on_behind_a_refusal_as_without(self):
        refused, plain = Estate(2), Estate(2)
        for worths in [[3, 1], [2, 2], [1, 3]]:
            self.refused_unchanged("BadTable", refused, "come", worths + [1])
            self.refused_unchanged("BadHeir", refused, "go", 2)
            self.refused_unchanged("BadTable", refused, "join", [1] * 9)
            self.assertEqual(refused.come(worths), plain.come(worths))
            self.assertEqual((refused.table(), refused.shares()), (plain.table(), plain.shares()))


class EstateHandedInTest(unittest.TestCase):
    def test_nothing_handed_in_is_changed_or_kept(self):
        estate = Estate(3)
        came, joined = [1, 2, 3], [4, 5]
        estate.come(came)
        self.assertEqual(came, [1, 2, 3])
        estate.come(came)
        estate.join(joined)
        self.assertEqual((came, joined), ([1, 2, 3], [4, 5]))
        ahead = (estate.table(), estate.shares())
        came[0] = 9
        came.append(8)
        joined.clear()
        self.assertEqual((estate.table(), estate.shares()), ahead)
        estate.come([0, 0, 0, 0])
        self.assertEqual(estate.table(), [[1, 1, 0], [2, 2, 0], [3, 3, 0], [4, 5, 0]])

    def test_one_list_handed_in_for_several_deeds(self):
        worths = [6, 6]
        estate = Estate(2)
        estate.come(worths)
        estate.come(worths)
        estate.join(worths)
        estate.join(worths)
        worths[0] = 1
        self.assertEqual(estate.table(), [[6, 6]] * 4)
        estate.come([1, 2, 3, 4])
        self.assertEqual(estate.table(), [[6, 6, 1], [6, 6, 2], [6, 6, 3], [6, 6, 4]])

    def test_nothing_refused_is_changed(self):
        estate = Estate(2)
        for deed, handed in [(estate.come, [1, 2, 3]), (estate.join, [1]), (estate.go, [0]), (Estate, [2])]:
            before = copy.deepcopy(handed)
            with self.assertRaises(ValueError):
                deed(handed)
            self.assertEqual(handed, before)

    def test_lists_that_were_told_are_their_askers_own(self):
        estate = estate_of([[3, 1, 4, 1], [2, 7, 1, 8], [0, 5, 7, 7]])
        for asked in [estate.table, estate.shares]:
            told = asked()
            before = copy.deepcopy(told)
            for row in told:
                self.assertEqual(sum(row is other for other in told), 1)
                row.append(39)
                row.reverse()
            told.pop()
            self.assertEqual(asked(), before)
        self.assertEqual(estate.come([1, 1, 1]), 4)
        self.assertEqual(estate.table(), [[3, 1, 4, 1, 1], [2, 7, 1, 8, 1], [0, 5, 7, 7, 1]])

    def test_lists_told_earlier_stay_as_they_are(self):
        chance = random.Random(61)
        witness = Witness(self, 4)
        told = []
        for _ in range(60):
            deed_by_chance(chance, witness, 6)
            now = [witness.estate.table(), witness.estate.shares()]
            told.append((now, copy.deepcopy(now)))
        for now, then in told:
            self.assertEqual(now, then)

    def test_tables_and_shares_told_may_be_handed_in(self):
        estate = estate_of([[3, 1], [2, 7]])
        self.assertEqual(estate.join(estate.table()[1]), 2)
        self.assertEqual(estate.table(), [[3, 1], [2, 7], [2, 7]])

    def test_named_arguments_and_home(self):
        estate = Estate(heirs=1)
        self.assertEqual(estate.come(worths=[5]), 0)
        self.assertEqual(estate.join(worths=[6]), 1)
        self.assertIsNone(estate.go(heir=0))
        self.assertEqual((estate.table(), estate.shares()), ([[6]], [[0]]))
        self.assertEqual(Estate.__module__, "thingdeal.estate")
        for name in ["__init__", "come", "go", "join", "shares", "table"]:
            self.assertIn(name, vars(Estate))


if __name__ == "__main__":
    unittest.main()
