"""Points 6 and 7, and the interface's thingdeal/rings.py. Which ring or line is told is never asked."""

import copy
import itertools
import random
import unittest

import cases
from refusals import RefusalCase
from thingdeal.rings import line, ring, turned


class FoundTest(unittest.TestCase):
    def check_ring(self, table, shares, found):
        self.assertIs(type(found), list)
        self.assertTrue(all(type(heir) is int and 0 <= heir < len(table) for heir in found))
        self.assertTrue(cases.is_ring_by_words(table, shares, found), (table, shares, found))

    def check_line(self, table, shares, found):
        self.assertIs(type(found), list)
        self.assertTrue(all(type(heir) is int for heir in found))
        self.assertEqual(sorted(found), list(range(len(table))))
        for place, heir in enumerate(found):
            for ahead in found[:place]:
                self.assertFalse(cases.envies_by_hand(table, shares, heir, ahead), (table, shares, found))
        for heir in range(len(table)):
            self.assertFalse(cases.envies_by_hand(table, shares, heir, found[0]))

    def check_either(self, table, shares):
        """Either a ring or a line is told; whether it is the ring."""
        round_one, straight = ring(table, shares), line(table, shares)
        self.assertNotEqual(round_one is None, straight is None, (table, shares))
        if round_one is None:
            self.check_line(table, shares, straight)
            return False
        self.check_ring(table, shares, round_one)
        return True

    def test_either_a_ring_or_a_line(self):
        told = [self.check_either(table, shares) for table, shares in cases.all_cases()]
        self.assertGreater(told.count(True), 50)
        self.assertGreater(told.count(False), 50)

    def test_as_many_things_as_heirs_by_chance(self):
        chance = random.Random(6)
        for heirs in range(2, 9):
            for most in [1, 2, 3, 10, 1000000]:
                for _ in range(20):
                    table = [[chance.randint(0, most) for _ in range(heirs)] for _ in range(heirs)]
                    owned = chance.sample(range(heirs), heirs)
                    self.check_either(table, [[thing] for thing in owned])

    def test_a_ring_that_was_put_in_is_found(self):
        for put_in, heirs in cases.put_in_rings():
            table, shares = cases.ring_case(put_in, heirs)
            found = ring(table, shares)
            # It is the only one, and may be told from any of its heirs on.
            self.assertIn(found, cases.turns_of(put_in))
            self.assertIsNone(line(table, shares))

    def test_one_of_two_rings_is_found(self):
        table, shares = cases.ring_case([0, 3, 5], 8)
        table[6][2], table[2][6] = 2, 2
        self.assertIn(ring(table, shares), cases.turns_of([0, 3, 5]) + cases.turns_of([2, 6]))

    def test_a_ring_behind_and_ahead_of_heirs_that_stand_in_none(self):
        table, shares = cases.ring_case([2, 4], 6)
        # 0 and 1 envy the ring, and the ring envies 3 and 5.
        for heir, other in [(0, 2), (1, 0), (1, 4), (2, 3), (4, 5), (3, 5)]:
            table[heir][other] = 2
        self.assertIn(ring(table, shares), cases.turns_of([2, 4]))
        self.assertIsNone(line(table, shares))

    def test_the_only_line_is_found(self):
        for heirs in range(1, 6):
            for order in itertools.permutations(range(heirs)):
                table, shares = cases.line_case(list(order))
                self.assertEqual(line(table, shares), list(order))
                self.assertIsNone(ring(table, shares))
        for order in [[7, 6, 5, 4, 3, 2, 1, 0], [3, 0, 7, 1, 6, 2, 5, 4]]:
            self.assertEqual(line(*cases.line_case(order)), order)

    def test_a_line_without_envy_or_things(self):
        for heirs in range(1, 9):
            for things in [0, 3]:
                self.assertEqual(sorted(line([[1] * things] * heirs, [[]] * heirs)), list(range(heirs)))
                self.assertIsNone(ring([[1] * things] * heirs, [[]] * heirs))

    def test_one_heir_is_a_line(self):
        for shares in [[[]], [[0]], [[0, 1]]]:
            self.assertEqual(line([[3, 4]], shares), [0])
            self.assertIsNone(ring([[3, 4]], shares))


class TurnedTest(unittest.TestCase):
    def check_turned(self, table, shares, heirs):
        told = turned(table, shares, heirs)
        wanted = {heir: shares[after] for heir, after in cases.with_next(heirs)}
        self.assertEqual(told, [wanted.get(heir, shares[heir]) for heir in range(len(table))])
        for heir, row in enumerate(table):
            was, now = cases.worth_by_hand(row, shares[heir]), cases.worth_by_hand(row, told[heir])
            if heir in heirs:
                self.assertGreater(now, was)
            else:
                self.assertEqual(now, was)
        self.assertLess(len(cases.pairs_by_hand(table, told)), len(cases.pairs_by_hand(table, shares)))

    def test_rings_that_were_put_in_from_each_of_their_heirs_on(self):
        for put_in, heirs in cases.put_in_rings():
            table, shares = cases.ring_case(put_in, heirs)
            for heirs_of_ring in cases.turns_of(put_in):
                self.check_turned(table, shares, heirs_of_ring)

    def test_rings_that_were_told(self):
        tried = 0
        for table, shares in cases.all_cases():
            found = ring(table, shares)
            for heirs in cases.turns_of(found or []):
                self.check_turned(table, shares, heirs)
                tried += 1
        self.assertGreater(tried, 100)

    def test_just_the_rings_are_turned(self):
        """Every list of different heirs, by tables of four heirs."""
        chance = random.Random(7)
        for most in [1, 2, 5]:
            for _ in range(6):
                table = cases.a_table(chance, 4, 7, most)
                shares = cases.some_shares(chance, 4, 7, 1)
                for many in range(5):
                    for heirs in itertools.permutations(range(4), many):
                        if cases.is_ring_by_words(table, shares, list(heirs)):
                            self.check_turned(table, shares, list(heirs))
                        else:
                            with self.assertRaises(ValueError):
                                turned(table, shares, list(heirs))

    def test_example(self):
        table = [[1, 2, 0, 0], [0, 1, 2, 0], [2, 0, 1, 0], [0, 0, 0, 9]]
        shares = [[0], [1], [2], [3]]
        self.assertEqual(turned(table, shares, [0, 1, 2]), [[1], [2], [0], [3]])
        self.assertEqual(turned(table, shares, [2, 0, 1]), [[1], [2], [0], [3]])

    def test_turned_until_there_is_a_line(self):
        for table, shares in cases.all_cases():
            found = ring(table, shares)
            turns = 0
            while found is not None:
                shares = turned(table, shares, found)
                found = ring(table, shares)
                turns += 1
                self.assertLess(turns, 57)
            self.assertIsNotNone(line(table, shares))


class RingRefusalsTest(RefusalCase):
    def test_tables_first(self):
        for table in cases.bad_tables():
            for shares in [cases.GOOD_SHARES, None]:
                self.refused("BadTable", ring, table, shares)
                self.refused("BadTable", line, table, shares)
                self.refused("BadTable", turned, table, shares, [0, 1])
                self.refused("BadTable", turned, table, shares, None)

    def test_shares_next(self):
        for shares in cases.bad_shares():
            self.refused("BadShares", ring, cases.GOOD_TABLE, shares)
            self.refused("BadShares", line, cases.GOOD_TABLE, shares)
            self.refused("BadShares", turned, cases.GOOD_TABLE, shares, [0, 1])
            self.refused("BadShares", turned, cases.GOOD_TABLE, shares, None)

    def test_what_is_no_ring(self):
        table, shares = cases.ring_case([0, 1, 2], 4)
        self.assertEqual(turned(table, shares, [0, 1, 2]), [[1], [2], [0], [3]])
        wrong = [[], [0], [1], [3], [0, 1], [1, 0], [0, 2, 1], [2, 1, 0], [0, 1, 2, 3], [3, 0, 1, 2], [0, 3], [2, 3]]
        twice = [[0, 0], [0, 1, 2, 0], [0, 1, 2, 0, 1, 2], [0, 0, 1, 2], [0, 1, 1, 2], [0, 1, 2, 2]]
        for heirs in wrong + twice + cases.NO_LISTS + [cases.endless(), [[0, 1, 2]], (0, 1, 2)]:
            self.refused("BadRing", turned, table, shares, heirs)

    def test_what_is_no_heirs_number_stands_in_no_ring(self):
        table, shares = cases.ring_case([0, 1, 2], 4)
        for odd in cases.NO_NUMBERS + [-1, -2, -3, -4, 4, 5, 8, 10 ** 30, -10 ** 30]:
            for at in range(3):
                self.refused("BadRing", turned, table, shares, cases.with_item([0, 1, 2], at, odd))
            self.refused("BadRing", turned, table, shares, [0, 1, 2, odd])

    def test_truth_values_stand_in_no_ring(self):
        table, shares = cases.ring_case([0, 1], 2)
        self.assertEqual(turned(table, shares, [0, 1]), [[1], [0]])
        for heirs in [[False, True], [0, True], [False, 1], [True, 0], [True, False]]:
            self.refused("BadRing", turned, table, shares, heirs)

    def test_an_heir_twice_though_each_envies_the_next(self):
        # All envy one another, so but for the heir that stands twice it would be a ring.
        table, shares = [[0, 1, 1], [1, 0, 1], [1, 1, 0]], [[0], [1], [2]]
        self.assertEqual(turned(table, shares, [0, 1, 2]), [[1], [2], [0]])
        for heirs in [[0, 1, 0, 2], [0, 1, 0, 1], [0, 1, 2, 0, 1, 2], [2, 1, 2, 0]]:
            self.refused("BadRing", turned, table, shares, heirs)

    def test_one_heir_is_no_ring(self):
        self.refused("BadRing", turned, [[4]], [[0]], [0])
        self.refused("BadRing", turned, [[4]], [[]], [0, 0])
        self.refused("BadRing", turned, [[4]], [[]], [])

    def test_as_much_is_not_envied(self):
        self.refused("BadRing", turned, [[1, 1], [1, 1]], [[0], [1]], [0, 1])
        self.refused("BadRing", turned, [[1, 2], [1, 1]], [[0], [1]], [0, 1])
        self.refused("BadRing", turned, [[1, 1], [2, 1]], [[0], [1]], [0, 1])


class RingsHandedInTest(unittest.TestCase):
    def test_nothing_is_changed(self):
        for table, shares in cases.all_cases():
            found, same = cases.same_before_and_after(ring, table, shares)
            self.assertTrue(same)
            _, same = cases.same_before_and_after(line, table, shares)
            self.assertTrue(same)
            if found is not None:
                _, same = cases.same_before_and_after(turned, table, shares, found)
                self.assertTrue(same)

    def test_nothing_refused_is_changed(self):
        table, shares = cases.ring_case([0, 1, 2], 4)
        for heirs in [[2, 1, 0], [0, 1, 2, 0], [0], [3, 9]]:
            handed = (table, shares, heirs)
            before = copy.deepcopy(handed)
            with self.assertRaises(ValueError):
                turned(*handed)
            self.assertEqual(handed, before)

    def test_lists_that_were_told_are_their_askers_own(self):
        round_case, line_case = cases.ring_case([2, 0, 3], 5), cases.line_case([1, 2, 0])
        for call, handed in [(ring, round_case), (line, line_case)]:
            told = call(*handed)
            before = list(told)
            told.reverse()
            told.append(None)
            self.assertEqual(call(*handed), before)

    def test_turned_shares_are_none_of_those_handed_in(self):
        table, shares = cases.ring_case([0, 1, 2], 5)
        heirs = [0, 1, 2]
        told = turned(table, shares, heirs)
        self.assertIsNot(told, shares)
        for share in told:
            self.assertFalse(any(share is other for other in shares + [heirs] + table))
            self.assertEqual(sum(share is other for other in told), 1)
        before = copy.deepcopy(told)
        for share in told:
            share.append("more")
        told.append("more")
        self.assertEqual(shares, [[0], [1], [2], [3], [4]])
        self.assertEqual(heirs, [0, 1, 2])
        again = turned(table, shares, heirs)
        self.assertEqual(again, before)
        for share in shares:
            share.clear()
        heirs.clear()
        self.assertEqual(again, before)

    def test_one_empty_share_handed_in_for_several_is_told_as_several(self):
        empty = []
        table = [[1, 2, 0], [2, 1, 0], [0, 0, 0], [0, 0, 0]]
        told = turned(table, [[0], [1], empty, empty], [0, 1])
        told[2].append(2)
        self.assertEqual(told, [[1], [0], [2], []])
        self.assertEqual(empty, [])

    def test_what_its_asker_changes_is_asked_as_it_is_then(self):
        table, shares = [[1, 2], [2, 1]], [[0], [1]]
        found = ring(table, shares)
        self.assertEqual(sorted(found), [0, 1])
        self.assertIsNone(line(table, shares))
        shares[0], shares[1] = shares[1], shares[0]
        self.assertIsNone(ring(table, shares))
        self.assertEqual(sorted(line(table, shares)), [0, 1])
        table[0], table[1] = table[1], table[0]
        self.assertEqual(sorted(ring(table, shares)), [0, 1])
        self.assertEqual(turned(table, shares, found), [[0], [1]])
        table[0][0] = 1
        self.assertEqual(line(table, shares), [1, 0])
        self.assertEqual(sorted(found), [0, 1])

    def test_named_arguments_and_home(self):
        table, shares = [[1, 2], [2, 1]], [[0], [1]]
        self.assertEqual(sorted(ring(table=table, shares=shares)), [0, 1])
        self.assertIsNone(line(table=table, shares=shares))
        self.assertEqual(turned(table=table, shares=shares, heirs=[1, 0]), [[1], [0]])
        for function in [ring, line, turned]:
            self.assertEqual(function.__module__, "thingdeal.rings")


if __name__ == "__main__":
    unittest.main()
