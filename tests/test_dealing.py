"""Points 10 and 11, and the interface's thingdeal/dealing.py."""

import copy
import itertools
import random
import unittest

import cases
from refusals import RefusalCase
from thingdeal.dealing import dealt, picked
from thingdeal.giving import awarded


def tables_of_every_size():
    """One to eight heirs with none to forty things, their worths from much alike to all different."""
    chance = random.Random(40)
    return [cases.a_table(chance, heirs, things, chance.choice([1, 3, 20, cases.MOST]))
            for heirs in range(1, 9) for things in range(41)]


def picked_by_hand(table, order):
    """Each in turn takes the first of what is left, by its worths from the most down, then by numbers."""
    shares = [[] for _ in table]
    left = list(range(len(table[0])))
    for heir in itertools.cycle(order):
        if not left:
            return [sorted(share) for share in shares]
        wanted = sorted(left, key=lambda thing: (-table[heir][thing], thing))[0]
        left = [thing for thing in left if thing != wanted]
        shares[heir].append(wanted)


class DealingCase(RefusalCase):
    def check_shares(self, table, told):
        """All things stand in shares, each once and rising."""
        self.assertIs(type(told), list)
        self.assertEqual(len(told), len(table))
        for share in told:
            self.assertIs(type(share), list)
            self.assertTrue(all(type(thing) is int for thing in share))
            self.assertEqual(share, sorted(share))
        self.assertEqual(sorted(thing for share in told for thing in share), list(range(len(table[0]))))


class DealtTest(DealingCase):
    def test_every_thing_once_and_borne(self):
        for table in tables_of_every_size():
            told = dealt(table)
            self.check_shares(table, told)
            self.assertTrue(cases.borne_by_trying(table, told), table)

    def test_borne_behind_each_thing(self):
        chance = random.Random(41)
        for heirs in range(1, 9):
            for things, most in [(40, cases.MOST), (15, 4)]:
                table = cases.a_table(chance, heirs, things, most)
                shares = [[] for _ in range(heirs)]
                for thing in range(things):
                    ahead = [row[:thing + 1] for row in table]
                    self.assertTrue(cases.borne_by_trying(ahead, dealt(ahead)))
                    shares = awarded(table, shares, thing)
                    self.assertTrue(cases.borne_by_trying(table, shares))
                self.assertEqual(dealt(table), shares)

    def test_heirs_of_one_mind(self):
        chance = random.Random(42)
        for heirs in range(1, 9):
            for things in [0, 1, 2, 7, 8, 9, 25, 40]:
                for most in [0, 1, 6, cases.MOST]:
                    row = [chance.randint(0, most) for _ in range(things)]
                    shares = [[] for _ in range(heirs)]
                    for thing in range(things):
                        shares = cases.given_to_one_mind(row, shares, thing)
                    self.assertEqual(dealt([list(row) for _ in range(heirs)]), shares)

    def test_two_heirs(self):
        chance = random.Random(43)
        for things in range(41):
            for most in [1, 5, cases.MOST]:
                table = cases.a_table(chance, 2, things, most)
                shares = [[], []]
                for thing in range(things):
                    shares = cases.given_to_two(table, shares, thing)
                self.assertEqual(dealt(table), shares)

    def test_examples(self):
        self.assertEqual(dealt([[]]), [[]])
        self.assertEqual(dealt([[]] * 8), [[]] * 8)
        self.assertEqual(dealt([[3, 0, 7]]), [[0, 1, 2]])
        self.assertEqual(dealt([[5, 4, 3], [5, 4, 3]]), [[0], [1, 2]])
        self.assertEqual(dealt([[4, 5, 3], [4, 5, 3]]), [[0, 2], [1]])
        # Nought is given to the first one, whom nobody envies for it.
        self.assertEqual(dealt([[0, 0], [0, 0]]), [[0, 1], []])
        # Heirs 0 and 1 swap, and then nobody envies heir 0.
        self.assertEqual(dealt([[1, 2, 0], [2, 1, 0]]), [[1, 2], [0]])

    def test_what_is_no_table(self):
        for table in cases.bad_tables():
            self.refused("BadTable", dealt, table)


class PickedTest(DealingCase):
    def check_picked(self, table, order):
        told = picked(table, order)
        self.check_shares(table, told)
        self.assertEqual(told, picked_by_hand(table, order))
        for ahead, heir in enumerate(order):
            for behind in order[ahead + 1:]:
                self.assertFalse(cases.envies_by_hand(table, told, heir, behind), (table, order))
        self.assertTrue(cases.borne_by_trying(table, told), (table, order))

    def test_tables_of_every_size(self):
        chance = random.Random(44)
        for table in tables_of_every_size():
            self.check_picked(table, chance.sample(range(len(table)), len(table)))

    def test_every_order(self):
        chance = random.Random(45)
        for heirs in range(1, 5):
            for things in [0, 1, heirs - 1, heirs, heirs + 1, 2 * heirs, 11]:
                table = cases.a_table(chance, heirs, things, 4)
                for order in itertools.permutations(range(heirs)):
                    self.check_picked(table, list(order))

    def test_of_several_worth_most_the_least_number(self):
        self.assertEqual(picked([[7, 7, 7, 7]] * 2, [0, 1]), [[0, 2], [1, 3]])
        self.assertEqual(picked([[7, 7, 7, 7]] * 2, [1, 0]), [[1, 3], [0, 2]])
        self.assertEqual(picked([[0] * 5] * 3, [2, 0, 1]), [[1, 4], [2], [0, 3]])
        self.assertEqual(picked([[1, 9, 9], [0, 0, 1]], [0, 1]), [[0, 1], [2]])

    def test_turns_come_round(self):
        # All want the last ones most, so the order shows who picked when.
        self.assertEqual(picked([[0, 1, 2, 3, 4, 5, 6]] * 3, [1, 2, 0]), [[1, 4], [0, 3, 6], [2, 5]])
        told = picked([list(range(40))] * 8, [3, 1, 4, 0, 5, 2, 6, 7])
        self.assertEqual(told[3], [7, 15, 23, 31, 39])
        self.assertEqual(told[7], [0, 8, 16, 24, 32])

    def test_fewer_things_than_heirs_and_none(self):
        self.assertEqual(picked([[1, 2]] * 4, [3, 1, 0, 2]), [[], [0], [], [1]])
        self.assertEqual(picked([[]] * 3, [2, 1, 0]), [[], [], []])
        self.assertEqual(picked([[]], [0]), [[]])
        self.assertEqual(picked([[2, 9, 4]], [0]), [[0, 1, 2]])

    def test_each_goes_by_its_own_worths(self):
        self.assertEqual(picked([[1, 2, 3], [3, 2, 1]], [0, 1]), [[1, 2], [0]])
        self.assertEqual(picked([[1, 2, 3], [3, 2, 1]], [1, 0]), [[2], [0, 1]])

    def test_what_is_no_table_is_refused_first(self):
        for table in cases.bad_tables():
            self.refused("BadTable", picked, table, [0, 1, 2])
            self.refused("BadTable", picked, table, None)

    def test_what_is_no_order(self):
        lists = [[], [0], [0, 1], [1, 2], [0, 2], [0, 1, 1], [0, 0, 2], [2, 2, 2], [0, 1, 2, 0], [0, 1, 2, 3],
                 [1, 2, 3], [0, 1, 3], [3, 1, 2], [0, 1, 2, 0, 1, 2], [[0, 1, 2]], [[0], [1], [2]]]
        for order in lists + cases.NO_LISTS + cases.unlisted([0, 1, 2]) + [range(3), "012", {0, 1, 2}, cases.endless()]:
            self.refused("BadOrder", picked, cases.GOOD_TABLE, order)
        for odd in cases.NO_NUMBERS + [-1, -2, -3, 3, 8, 10 ** 30, -10 ** 30]:
            for at in range(3):
                self.refused("BadOrder", picked, cases.GOOD_TABLE, cases.with_item([0, 1, 2], at, odd))
            self.refused("BadOrder", picked, cases.GOOD_TABLE, [0, 1, 2, odd])

    def test_truth_values_stand_in_no_order(self):
        self.assertEqual(picked([[5], [5]], [0, 1]), [[0], []])
        for order in [[False, True], [0, True], [False, 1], [True, 0], [True, False]]:
            self.refused("BadOrder", picked, [[5], [5]], order)
        self.refused("BadOrder", picked, [[5]], [False])


class DealingHandedInTest(unittest.TestCase):
    def test_nothing_is_changed(self):
        chance = random.Random(46)
        for table in tables_of_every_size()[::5]:
            order = chance.sample(range(len(table)), len(table))
            for call, handed in [(dealt, (table,)), (picked, (table, order))]:
                _, same = cases.same_before_and_after(call, *handed)
                self.assertTrue(same)

    def test_nothing_refused_is_changed(self):
        for call, handed in [(dealt, ([[2, 1], [1]],)), (picked, ([[2, 1], [1]], [1, 0])),
                             (picked, ([[2, 1], [1, 2]], [1, 0, 1])), (picked, ([[2, 1], [1, 2]], [2, 0]))]:
            before = copy.deepcopy(handed)
            with self.assertRaises(ValueError):
                call(*handed)
            self.assertEqual(handed, before)

    def test_lists_that_were_told_are_their_askers_own(self):
        row = [5, 4, 3, 2]
        for call, handed in [(dealt, ([row] * 5,)), (dealt, ([[]] * 3,)), (picked, ([row] * 5, [4, 3, 2, 1, 0]))]:
            told = call(*handed)
            before = copy.deepcopy(told)
            for share in told:
                self.assertEqual(sum(share is other for other in told), 1)
                share.append("more")
            told.append(None)
            self.assertEqual(call(*handed), before)

    def test_what_its_asker_changes_is_asked_as_it_is_then(self):
        table, order = [[5, 4, 3], [5, 4, 3]], [0, 1]
        shares, turns = dealt(table), picked(table, order)
        self.assertEqual((shares, turns), ([[0], [1, 2]], [[0, 2], [1]]))
        order.reverse()
        self.assertEqual(picked(table, order), [[1], [0, 2]])
        for row in table:
            row.pop(0)
        self.assertEqual(dealt(table), [[0], [1]])
        self.assertEqual(picked(table, order), [[1], [0]])
        self.assertEqual((shares, turns), ([[0], [1, 2]], [[0, 2], [1]]))

    def test_named_arguments_and_home(self):
        self.assertEqual(dealt(table=[[1]]), [[0]])
        self.assertEqual(picked(table=[[1], [1]], order=[1, 0]), [[], [0]])
        for function in [dealt, picked]:
            self.assertEqual(function.__module__, "thingdeal.dealing")


if __name__ == "__main__":
    unittest.main()
