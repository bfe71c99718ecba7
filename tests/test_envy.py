"""Points 4 and 5, and the interface's thingdeal/envy.py."""

import unittest

import cases
from refusals import RefusalCase
from thingdeal.envy import borne, envies, spare


def spare_by_hand(table, shares, heir, other):
    """Of the dearest things of the other's share the least number, or None."""
    if not cases.envies_by_hand(table, shares, heir, other):
        return None
    most = max(table[heir][thing] for thing in shares[other])
    return min(thing for thing in shares[other] if table[heir][thing] == most)


class EnviesTest(unittest.TestCase):
    def test_pairs_against_sums(self):
        for table, shares in cases.all_cases():
            told = envies(table, shares)
            self.assertIs(type(told), list)
            self.assertTrue(all(type(pair) is tuple for pair in told))
            self.assertEqual(told, cases.pairs_by_hand(table, shares))

    def test_they_stand_by_the_heirs_then_by_the_others(self):
        for heirs in range(2, 9):
            # Each heir has what only the others want.
            table = [[0 if thing == heir else 1 for thing in range(heirs)] for heir in range(heirs)]
            self.assertEqual(envies(table, [[heir] for heir in range(heirs)]), cases.pairs_of(heirs))

    def test_examples(self):
        self.assertEqual(envies([[5, 3], [5, 3]], [[0], [1]]), [(1, 0)])
        self.assertEqual(envies([[5, 3], [3, 5]], [[0], [1]]), [])
        self.assertEqual(envies([[5, 3], [3, 5]], [[1], [0]]), [(0, 1), (1, 0)])

    def test_as_much_is_not_envied(self):
        self.assertEqual(envies([[2, 2], [2, 2]], [[0], [1]]), [])
        self.assertEqual(envies([[2, 1, 1], [2, 1, 1]], [[0], [1, 2]]), [])

    def test_things_that_lie_aside_are_not_envied(self):
        self.assertEqual(envies([[9, 9, 1], [9, 9, 1]], [[], []]), [])
        self.assertEqual(envies([[9, 9, 1], [9, 9, 1]], [[], [2]]), [(0, 1)])

    def test_heirs_without_things(self):
        table = [[1, 0], [1, 0], [1, 0]]
        self.assertEqual(envies(table, [[], [], [0]]), [(0, 2), (1, 2)])
        # What is worth nought to it is envied by nobody.
        self.assertEqual(envies(table, [[], [], [1]]), [])

    def test_one_heir_envies_nobody(self):
        self.assertEqual(envies([[]], [[]]), [])
        self.assertEqual(envies([[4, 4]], [[]]), [])
        self.assertEqual(envies([[4, 4]], [[0, 1]]), [])


class SpareTest(unittest.TestCase):
    def test_each_two_heirs_against_sums(self):
        for table, shares in cases.all_cases():
            for heir, other in cases.pairs_of(len(table)):
                told = spare(table, shares, heir, other)
                self.assertEqual(told, spare_by_hand(table, shares, heir, other))
                self.assertIn(type(told), (int, type(None)))

    def test_examples(self):
        table = [[1, 4, 9, 9, 2], [9, 4, 1, 1, 2]]
        self.assertEqual(spare(table, [[0], [1, 2, 3]], 0, 1), 2)
        self.assertEqual(spare(table, [[0], [1, 3, 4]], 0, 1), 3)
        self.assertEqual(spare(table, [[0], [1]], 0, 1), 1)
        self.assertIsNone(spare(table, [[2], [1]], 0, 1))
        self.assertEqual(spare(table, [[0, 1], [2]], 1, 0), 0)

    def test_it_goes_by_the_envious_ones_worths(self):
        table = [[1, 8, 1], [8, 1, 1]]
        self.assertEqual(spare(table, [[2], [0, 1]], 0, 1), 1)
        self.assertEqual(spare(table, [[0, 1], [2]], 1, 0), 0)

    def test_of_several_the_least_number(self):
        for first in range(39):
            share = list(range(first, 40))
            self.assertEqual(spare([[7] * 40, [0] * 40], [[], share], 0, 1), first)

    def test_none_without_envy(self):
        self.assertIsNone(spare([[0, 0], [0, 0]], [[], [0, 1]], 0, 1))
        self.assertIsNone(spare([[3, 3], [3, 3]], [[0], [1]], 0, 1))
        self.assertIsNone(spare([[3, 3], [3, 3]], [[0], []], 0, 1))
        self.assertIsNone(spare([[], []], [[], []], 1, 0))


class BorneTest(unittest.TestCase):
    def test_against_each_one_thing_tried(self):
        told = {True: 0, False: 0}
        for table, shares in cases.all_cases():
            answer = borne(table, shares)
            self.assertIs(answer, cases.borne_by_trying(table, shares))
            told[answer] += 1
        self.assertGreater(min(told.values()), 50)

    def test_just_where_there_is_no_envy_without_the_spares(self):
        for table, shares in cases.all_cases():
            left = []
            for heir, other in envies(table, shares):
                out = spare(table, shares, heir, other)
                rest = [thing for thing in shares[other] if thing != out]
                left.append(cases.envies_by_hand(table, cases.with_item(shares, other, rest), heir, other))
            self.assertIs(borne(table, shares), not any(left))

    def test_examples(self):
        table = [[2, 2, 2], [1, 1, 5]]
        self.assertIs(borne(table, [[], [0]]), True)
        self.assertIs(borne(table, [[], [0, 1]]), False)
        self.assertIs(borne(table, [[0], [1, 2]]), True)
        self.assertIs(borne(table, [[0, 1], []]), False)
        self.assertIs(borne(table, [[], []]), True)

    def test_each_heir_must_bear_each_other_one(self):
        for heirs in range(2, 9):
            for heir, other in cases.pairs_of(heirs):
                # Only this one wants what only that one has.
                table = cases.with_item([[0, 0]] * heirs, heir, [1, 1])
                shares = cases.with_item([[]] * heirs, other, [0, 1])
                self.assertIs(borne(table, shares), False)
                self.assertIs(borne(table, cases.with_item(shares, other, [1])), True)

    def test_worths_of_nought(self):
        self.assertIs(borne([[0, 0, 0], [0, 0, 0]], [[], [0, 1, 2]]), True)
        # But one thing of the share is worth anything.
        self.assertIs(borne([[0, 0, 7], [0, 0, 0]], [[], [0, 1, 2]]), True)
        self.assertIs(borne([[0, 1, 7], [0, 0, 0]], [[], [0, 1, 2]]), False)

    def test_as_much_without_the_spare_is_borne(self):
        self.assertIs(borne([[3, 3, 9], [0, 0, 0]], [[0], [1, 2]]), True)
        self.assertIs(borne([[3, 4, 9], [0, 0, 0]], [[0], [1, 2]]), False)

    def test_things_that_lie_aside_do_not_count(self):
        self.assertIs(borne([[9, 9, 9], [9, 9, 9]], [[], []]), True)
        self.assertIs(borne([[9, 9, 9], [9, 9, 9]], [[], [1]]), True)

    def test_one_heir_bears_all(self):
        self.assertIs(borne([[]], [[]]), True)
        self.assertIs(borne([[5, 5]], [[]]), True)
        self.assertIs(borne([[5, 5]], [[0, 1]]), True)


class EnvyRefusalsTest(RefusalCase):
    def test_tables_first(self):
        for table in cases.bad_tables():
            self.refused("BadTable", envies, table, cases.GOOD_SHARES)
            self.refused("BadTable", borne, table, cases.GOOD_SHARES)
            self.refused("BadTable", spare, table, cases.GOOD_SHARES, 0, 1)
            self.refused("BadTable", envies, table, None)
            self.refused("BadTable", borne, table, [[5]])
            self.refused("BadTable", spare, table, None, None, None)
            self.refused("BadTable", spare, table, cases.GOOD_SHARES, 0, 0)

    def test_shares_next(self):
        for shares in cases.bad_shares():
            self.refused("BadShares", envies, cases.GOOD_TABLE, shares)
            self.refused("BadShares", borne, cases.GOOD_TABLE, shares)
            self.refused("BadShares", spare, cases.GOOD_TABLE, shares, 0, 1)
            self.refused("BadShares", spare, cases.GOOD_TABLE, shares, None, 9)
            self.refused("BadShares", spare, cases.GOOD_TABLE, shares, 1, 1)

    def test_heirs_then(self):
        for heir in cases.NO_NUMBERS + [-1, -3, 3, 4, 8, 10 ** 30, -10 ** 30]:
            self.refused("BadHeir", spare, cases.GOOD_TABLE, cases.GOOD_SHARES, heir, 0)
            self.refused("BadHeir", spare, cases.GOOD_TABLE, cases.GOOD_SHARES, 0, heir)
            self.refused("BadHeir", spare, cases.GOOD_TABLE, cases.GOOD_SHARES, 2, heir)
            self.refused("BadHeir", spare, cases.GOOD_TABLE, cases.GOOD_SHARES, heir, heir)

    def test_one_heir_twice(self):
        for heir in range(3):
            self.refused("BadHeir", spare, cases.GOOD_TABLE, cases.GOOD_SHARES, heir, heir)
        self.refused("BadHeir", spare, [[1]], [[0]], 0, 0)

    def test_one_heir_has_no_other(self):
        self.refused("BadHeir", spare, [[1]], [[0]], 0, 1)
        self.refused("BadHeir", spare, [[1]], [[0]], 1, 0)


class EnvyHandedInTest(unittest.TestCase):
    def test_nothing_is_changed(self):
        for table, shares in cases.all_cases():
            for call in [envies, borne]:
                _, same = cases.same_before_and_after(call, table, shares)
                self.assertTrue(same)
            for heir, other in cases.pairs_of(len(table)):
                _, same = cases.same_before_and_after(spare, table, shares, heir, other)
                self.assertTrue(same)

    def test_a_list_that_was_told_is_its_askers_own(self):
        for table, shares in [([[5, 3], [5, 3]], [[0], [1]]), ([[5, 3], [3, 5]], [[0], [1]]), ([[]], [[]])]:
            told = envies(table, shares)
            before = list(told)
            told.append("more")
            told.insert(0, None)
            again = envies(table, shares)
            self.assertEqual(again, before)
            again.clear()
            self.assertEqual(told, [None] + before + ["more"])

    def test_what_its_asker_changes_is_asked_as_it_is_then(self):
        table = [[5, 3], [5, 3]]
        shares = [[0], [1]]
        self.assertEqual(envies(table, shares), [(1, 0)])
        self.assertEqual(spare(table, shares, 1, 0), 0)
        told = envies(table, shares)
        table[1][1] = 6
        self.assertEqual(envies(table, shares), [])
        self.assertIsNone(spare(table, shares, 1, 0))
        shares[0].append(1)
        shares[1].clear()
        self.assertEqual(envies(table, shares), [(1, 0)])
        self.assertEqual(spare(table, shares, 1, 0), 1)
        self.assertIs(borne(table, shares), False)
        shares[0].remove(0)
        self.assertIs(borne(table, shares), True)
        self.assertEqual(told, [(1, 0)])

    def test_named_arguments_and_home(self):
        self.assertEqual(envies(table=[[1], [1]], shares=[[], [0]]), [(0, 1)])
        self.assertEqual(spare(table=[[1], [1]], shares=[[], [0]], heir=0, other=1), 0)
        self.assertIs(borne(table=[[1], [1]], shares=[[], [0]]), True)
        for function in [envies, spare, borne]:
            self.assertEqual(function.__module__, "thingdeal.envy")


if __name__ == "__main__":
    unittest.main()
