"""Points 1, 2 and 3, and the interface's thingdeal/worths.py."""

import copy
import random
import unittest

import cases
from refusals import RefusalCase
from thingdeal import worths
from thingdeal.worths import need_shares, need_table, worth


class LimitsTest(unittest.TestCase):
    def test_limits(self):
        self.assertEqual((worths.MOST_HEIRS, worths.MOST_THINGS, worths.MOST_WORTH), (8, 40, 1000000))
        for limit in [worths.MOST_HEIRS, worths.MOST_THINGS, worths.MOST_WORTH]:
            self.assertIs(type(limit), int)

    def test_functions_are_defined_in_this_file(self):
        for function in [need_table, need_shares, worth]:
            self.assertEqual(function.__module__, "thingdeal.worths")


class TablesTest(RefusalCase):
    def test_every_size_is_a_table(self):
        chance = random.Random(1)
        for heirs in range(1, 9):
            for things in range(41):
                self.assertIsNone(need_table(cases.a_table(chance, heirs, things)))

    def test_edges_are_tables(self):
        for table in [[[]], [[]] * 8, [[0]], [[1000000]], [[0] * 40] * 8, [[1000000] * 40] * 8, [[0, 1000000]] * 3]:
            self.assertIsNone(need_table(table))

    def test_named_arguments(self):
        self.assertIsNone(need_table(table=[[1]]))
        self.assertIsNone(need_shares(table=[[1]], shares=[[0]]))
        self.assertEqual(worth(table=[[7]], heir=0, things=[0]), 7)

    def test_what_is_no_table_is_refused(self):
        for table in cases.bad_tables():
            self.refused("BadTable", need_table, table)

    def test_a_generator_is_no_table(self):
        self.refused("BadTable", need_table, (row for row in [[1]]))
        self.refused("BadTable", need_table, [(cell for cell in [1])])

    def test_a_good_table_is_none_of_these(self):
        self.assertIsNone(need_table(cases.GOOD_TABLE))

    def test_too_many_things_or_too_large_a_worth_by_one(self):
        self.assertIsNone(need_table([[1000000] * 40] * 8))
        self.refused("BadTable", need_table, [[1000000] * 41] * 8)
        self.refused("BadTable", need_table, [[1000000] * 40] * 9)
        for heir in range(8):
            for thing in range(40):
                self.refused("BadTable", need_table, cases.with_cell([[0] * 40] * 8, heir, thing, 1000001))


class SharesTest(RefusalCase):
    def test_shares_of_every_size(self):
        chance = random.Random(2)
        for heirs in range(1, 9):
            for things in range(41):
                for aside in [0, 5, 10]:
                    table = cases.a_table(chance, heirs, things)
                    self.assertIsNone(need_shares(table, cases.some_shares(chance, heirs, things, aside)))

    def test_one_heir_may_have_all_and_none_may_have_any(self):
        for heirs in range(1, 9):
            table = [[1] * 40] * heirs
            self.assertIsNone(need_shares(table, [[]] * heirs))
            for heir in range(heirs):
                self.assertIsNone(need_shares(table, cases.with_item([[]] * heirs, heir, list(range(40)))))

    def test_shares_without_things(self):
        self.assertIsNone(need_shares([[]], [[]]))
        self.refused("BadShares", need_shares, [[]], [[0]])
        self.refused("BadShares", need_shares, [[]], [])
        self.refused("BadShares", need_shares, [[]], [[], []])

    def test_what_are_no_shares_is_refused(self):
        for shares in cases.bad_shares():
            self.refused("BadShares", need_shares, cases.GOOD_TABLE, shares)

    def test_good_shares_are_none_of_these(self):
        self.assertIsNone(need_shares(cases.GOOD_TABLE, cases.GOOD_SHARES))

    def test_the_number_of_shares_is_the_number_of_heirs(self):
        for heirs in range(1, 9):
            for many in range(11):
                if many == heirs:
                    self.assertIsNone(need_shares([[1, 2]] * heirs, [[]] * many))
                else:
                    self.refused("BadShares", need_shares, [[1, 2]] * heirs, [[]] * many)

    def test_a_things_number_is_below_the_number_of_things(self):
        for things in range(41):
            table = [[1] * things] * 2
            self.assertIsNone(need_shares(table, [list(range(things)), []]))
            self.refused("BadShares", need_shares, table, [[], [things]])
            self.refused("BadShares", need_shares, table, [[-1], []])

    def test_what_is_no_table_is_refused_first(self):
        for table in cases.bad_tables():
            self.refused("BadTable", need_shares, table, cases.GOOD_SHARES)
            self.refused("BadTable", need_shares, table, None)


class WorthTest(RefusalCase):
    def test_sums(self):
        chance = random.Random(3)
        for heirs in range(1, 9):
            for things in range(41):
                table = cases.a_table(chance, heirs, things)
                for heir in range(heirs):
                    for many in [0, things // 2, things]:
                        asked = chance.sample(range(things), many)
                        come = worth(table, heir, asked)
                        self.assertEqual(come, cases.worth_by_hand(table[heir], asked))
                        self.assertIs(type(come), int)

    def test_examples(self):
        table = [[5, 0, 1000000], [1, 2, 3]]
        self.assertEqual(worth(table, 0, []), 0)
        self.assertEqual(worth(table, 0, [2, 0]), 1000005)
        self.assertEqual(worth(table, 1, [2, 0]), 4)
        self.assertEqual(worth(table, 1, [1, 2, 0]), 6)
        self.assertEqual(worth([[1000000] * 40], 0, list(range(40))[::-1]), 40000000)
        self.assertEqual(worth([[]], 0, []), 0)

    def test_what_is_no_table_is_refused_first(self):
        for table in cases.bad_tables():
            self.refused("BadTable", worth, table, 0, [0])
            self.refused("BadTable", worth, table, None, None)

    def test_what_is_no_heir_is_refused_next(self):
        for heir in cases.NO_NUMBERS + [-1, -3, 3, 4, 8, 10 ** 30, -10 ** 30]:
            self.refused("BadHeir", worth, cases.GOOD_TABLE, heir, [0])
            self.refused("BadHeir", worth, cases.GOOD_TABLE, heir, None)

    def test_heirs_numbers_end_with_the_table(self):
        for heirs in range(1, 9):
            self.assertEqual(worth([[4]] * heirs, heirs - 1, [0]), 4)
            self.refused("BadHeir", worth, [[4]] * heirs, heirs, [0])
            self.refused("BadHeir", worth, [[4]] * heirs, -1, [0])

    def test_what_is_no_list_of_things_is_refused(self):
        odd = cases.NO_NUMBERS + [-1, -3, 3, 4, 40, 10 ** 30, -10 ** 30]
        lists = [[item] for item in odd] + [[0, item] for item in odd] + [[item, 2] for item in odd]
        twice = [[0, 0], [2, 2], [0, 1, 0], [1, 0, 1], [0, 1, 2, 0], [2, 1, 0, 2], [1] * 40]
        for things in cases.NO_LISTS + lists + twice + [cases.endless()]:
            self.refused("BadThing", worth, cases.GOOD_TABLE, 0, things)
            self.refused("BadThing", worth, cases.GOOD_TABLE, 2, things)

    def test_things_end_with_the_table(self):
        for things in range(41):
            self.assertEqual(worth([[1] * things], 0, list(range(things))), things)
            self.refused("BadThing", worth, [[1] * things], 0, [things])


class HandedInTest(unittest.TestCase):
    def test_nothing_is_changed(self):
        chance = random.Random(4)
        for table, shares in cases.all_cases():
            things = chance.sample(range(len(table[0])), len(table[0]))
            self.assertEqual(cases.same_before_and_after(need_table, table), (None, True))
            self.assertEqual(cases.same_before_and_after(need_shares, table, shares), (None, True))
            _, same = cases.same_before_and_after(worth, table, 0, things)
            self.assertTrue(same)

    def test_nothing_refused_is_changed(self):
        table = [[1, 2], [3, 4]]
        for call, handed in [(need_table, ([[2, 1], [1]],)), (need_shares, (table, [[1, 0], []])),
                             (worth, (table, 0, [1, 0, 1])), (worth, (table, 2, [1, 0]))]:
            before = copy.deepcopy(handed)
            with self.assertRaises(ValueError):
                call(*handed)
            self.assertEqual(handed, before)

    def test_what_its_asker_changes_is_asked_as_it_is_then(self):
        table = [[1, 2], [3, 4]]
        things = [0]
        self.assertEqual(worth(table, 0, things), 1)
        things.append(1)
        self.assertEqual(worth(table, 0, things), 3)
        table[0][1] = 50
        self.assertEqual(worth(table, 0, things), 51)
        table[0].append(7)
        with self.assertRaises(ValueError):
            worth(table, 0, things)
        table[1].append(7)
        self.assertEqual(worth(table, 0, [2]), 7)


if __name__ == "__main__":
    unittest.main()
