"""Points 8 and 9, and the interface's thingdeal/giving.py. Which rings are turned is never asked."""

import copy
import random
import unittest

import cases
from refusals import RefusalCase
from thingdeal.giving import awarded, steps


def with_aside(table, shares, at, worths):
    """A table with one thing more at a place among the others, and the shares without it."""
    wider = [row[:at] + [added] + row[at:] for row, added in zip(table, worths)]
    return wider, [[thing + (thing >= at) for thing in share] for share in shares], at


def put_in_ring_givings():
    """A ring that was put in, and a thing aside ahead of, among or behind the others."""
    chance = random.Random(30)
    found = []
    for put_in, heirs in cases.put_in_rings():
        table, shares = cases.ring_case(put_in, heirs)
        for at in {0, chance.randrange(heirs), heirs}:
            found.append((put_in, with_aside(table, shares, at, [chance.randint(0, 3) for _ in range(heirs)])))
    return found


def line_givings():
    """Only one line, and a thing aside: there is no ring."""
    chance = random.Random(31)
    found = []
    for heirs in range(1, 9):
        for _ in range(6):
            order = chance.sample(range(heirs), heirs)
            table, shares = cases.line_case(order)
            at = chance.randint(0, heirs)
            found.append((order, with_aside(table, shares, at, [chance.randint(0, 3) for _ in range(heirs)])))
    return found


def chance_givings():
    """One thing each, wanted by chance: there are often several rings; and one thing aside."""
    chance = random.Random(32)
    found = []
    for heirs in range(2, 9):
        for most in [1, 2, 9, 1000000]:
            for _ in range(8):
                table = cases.a_table(chance, heirs, heirs + 1, most)
                owned = chance.sample(range(heirs + 1), heirs + 1)
                found.append((table, [[thing] for thing in owned[:-1]], owned[-1]))
    return found


def all_givings():
    chance = random.Random(33)
    found = [giving for _, giving in put_in_ring_givings() + line_givings()] + chance_givings()
    for table, shares in cases.all_cases():
        aside = cases.things_aside(table, shares)
        if aside:
            found.append((table, shares, chance.choice(aside)))
    return found


class GivingCase(unittest.TestCase):
    def walked(self, table, shares, thing, told):
        """The shares behind steps, each of which is one by sums made at the place where it stands."""
        self.assertIs(type(told), list)
        self.assertTrue(all(type(step) is tuple for step in told), told)
        for step in told[:-1]:
            word, heirs = step
            self.assertEqual(word, "ring")
            self.assertIs(type(heirs), tuple)
            self.assertTrue(all(type(heir) is int and 0 <= heir < len(table) for heir in heirs), told)
            self.assertTrue(cases.is_ring_by_words(table, shares, list(heirs)), (table, shares, told))
            shares = cases.turned_by_hand(shares, list(heirs))
        self.assertFalse(cases.has_ring_by_hand(table, shares), (table, shares, told))
        taker = cases.least_unenvied(table, shares)
        self.assertEqual(told[-1], ("give", thing, taker), (table, shares, told))
        self.assertEqual([type(part) for part in told[-1]], [str, int, int])
        return cases.given_by_hand(shares, taker, thing)


class StepsTest(GivingCase):
    def test_every_step_is_one_where_it_stands(self):
        turns = []
        for table, shares, thing in all_givings():
            told = steps(table, shares, thing)
            self.walked(table, shares, thing, told)
            turns.append(len(told) - 1)
        self.assertGreater(turns.count(0), 100)
        self.assertGreater(turns.count(1), 50)
        # In some the first ring leaves another one.
        self.assertGreater(len([many for many in turns if many > 1]), 20)

    def test_a_ring_that_was_put_in_is_turned_first(self):
        for put_in, (table, shares, thing) in put_in_ring_givings():
            told = steps(table, shares, thing)
            # It is the only ring, and may be told from any of its heirs on.
            self.assertEqual(told[0][0], "ring")
            self.assertIn(list(told[0][1]), cases.turns_of(put_in))
            self.assertEqual(len(told), 2)

    def test_without_a_ring_nothing_is_turned(self):
        for order, (table, shares, thing) in line_givings():
            self.assertEqual(steps(table, shares, thing), [("give", thing, order[0])])

    def test_of_several_whom_nobody_envies_the_least_number(self):
        for heirs in range(1, 9):
            for things in [1, 5, 40]:
                for thing in [0, things // 2, things - 1]:
                    self.assertEqual(steps([[7] * things] * heirs, [[]] * heirs, thing), [("give", thing, 0)])
        for first in range(8):
            # All up to the first one have a thing that the others want.
            shares = [[heir] if heir < first else [] for heir in range(8)]
            self.assertEqual(steps([[1] * 9] * 8, shares, 8), [("give", 8, first)])

    def test_the_worth_of_the_thing_and_of_others_aside_does_not_count(self):
        # Heir 1 is poorer; that heir 0 wants the thing and heir 1 does not is nothing to it.
        self.assertEqual(steps([[5, 9, 9], [5, 0, 0]], [[0], []], 2), [("give", 2, 1)])
        self.assertEqual(steps([[5, 9, 9], [5, 0, 0]], [[0], []], 1), [("give", 1, 1)])

    def test_examples(self):
        self.assertEqual(steps([[5, 3, 1], [5, 3, 1]], [[0], [1]], 2), [("give", 2, 1)])
        self.assertEqual(steps([[4]], [[]], 0), [("give", 0, 0)])
        told = steps([[1, 2, 0], [2, 1, 0]], [[0], [1]], 2)
        self.assertIn(told, [[("ring", heirs), ("give", 2, 0)] for heirs in [(0, 1), (1, 0)]])
        # Heir 1 wants what heir 0 has, both ahead of and behind the swap of 0 and 2.
        table = [[1, 0, 2, 7], [9, 5, 9, 7], [2, 0, 1, 7]]
        told = steps(table, [[0], [1], [2]], 3)
        self.assertIn(told, [[("ring", heirs), ("give", 3, 1)] for heirs in [(0, 2), (2, 0)]])


class AwardedTest(GivingCase):
    def check_awarded(self, table, shares, thing):
        told = awarded(table, shares, thing)
        self.assertIs(type(told), list)
        self.assertEqual(len(told), len(table))
        for share in told:
            self.assertIs(type(share), list)
            self.assertTrue(all(type(held) is int for held in share))
            self.assertEqual(share, sorted(share))
        were = sorted(held for share in shares for held in share)
        self.assertEqual(sorted(held for share in told for held in share), sorted(were + [thing]))
        # But for the thing that is given, the shares are the same ones, perhaps of other heirs.
        without = [[held for held in share if held != thing] for share in told]
        self.assertEqual(sorted(without), sorted(shares))
        for row, share, was in zip(table, told, shares):
            self.assertGreaterEqual(cases.worth_by_hand(row, share), cases.worth_by_hand(row, was))
        return told

    def test_they_are_what_is_behind_the_steps(self):
        for table, shares, thing in all_givings():
            told = self.check_awarded(table, shares, thing)
            self.assertEqual(told, self.walked(table, shares, thing, steps(table, shares, thing)))

    def test_borne_where_they_were_borne(self):
        kept, turned = 0, 0
        for table, shares, thing in all_givings():
            if cases.borne_by_trying(table, shares):
                told = awarded(table, shares, thing)
                self.assertTrue(cases.borne_by_trying(table, told), (table, shares, thing))
                kept += 1
                turned += cases.has_ring_by_hand(table, shares)
        self.assertGreater(kept, 200)
        self.assertGreater(turned, 100)

    def test_one_thing_behind_another_in_any_order(self):
        chance = random.Random(34)
        for heirs in range(1, 9):
            for things, most in [(1, 5), (7, 2), (12, 1000000), (20, 30)]:
                table = cases.a_table(chance, heirs, things, most)
                shares = [[] for _ in range(heirs)]
                for thing in chance.sample(range(things), things):
                    shares = self.check_awarded(table, shares, thing)
                    self.assertTrue(cases.borne_by_trying(table, shares))

    def test_what_is_not_borne_may_be_handed_in(self):
        unborne = 0
        for table, shares, thing in all_givings():
            if not cases.borne_by_trying(table, shares):
                self.check_awarded(table, shares, thing)
                unborne += 1
        self.assertGreater(unborne, 50)

    def test_things_that_lie_aside_otherwise_stay_aside(self):
        self.assertEqual(awarded([[5] * 6, [5] * 6], [[1], [4]], 3), [[1, 3], [4]])
        self.assertEqual(awarded([[5] * 40] * 3, [[], [], []], 39), [[39], [], []])

    def test_shares_rise_wherever_the_thing_belongs(self):
        for thing in range(0, 41, 2):
            odd = [held for held in range(1, 40, 2)]
            self.assertEqual(awarded([[1] * 40], [odd], min(thing, 38)), [sorted(odd + [min(thing, 38)])])

    def test_two_heirs_swap_where_both_envy(self):
        chance = random.Random(35)
        swapped = 0
        for _ in range(400):
            table = cases.a_table(chance, 2, 6, chance.choice([1, 3, 1000000]))
            shares = cases.some_shares(chance, 2, 5, 1)
            self.assertEqual(awarded(table, shares, 5), cases.given_to_two(table, shares, 5))
            swapped += cases.has_ring_by_hand(table, shares)
        self.assertGreater(swapped, 40)

    def test_examples(self):
        self.assertEqual(awarded([[4]], [[]], 0), [[0]])
        self.assertEqual(awarded([[5, 3, 1], [5, 3, 1]], [[0], [1]], 2), [[0], [1, 2]])
        self.assertEqual(awarded([[1, 2, 0], [2, 1, 0]], [[0], [1]], 2), [[1, 2], [0]])
        table, shares = cases.ring_case([0, 1, 2], 4)
        self.assertEqual(awarded(*with_aside(table, shares, 0, [1, 1, 1, 1])), [[0, 2], [3], [1], [4]])


class GivingRefusalsTest(RefusalCase):
    def test_tables_first(self):
        for call in [steps, awarded]:
            for table in cases.bad_tables():
                self.refused("BadTable", call, table, [[2], [0], []], 1)
                self.refused("BadTable", call, table, None, None)

    def test_shares_next(self):
        for call in [steps, awarded]:
            for shares in cases.bad_shares():
                self.refused("BadShares", call, cases.GOOD_TABLE, shares, 1)
                self.refused("BadShares", call, cases.GOOD_TABLE, shares, None)

    def test_what_is_no_things_number(self):
        for call in [steps, awarded]:
            for thing in cases.NO_NUMBERS + [-1, -2, -3, 3, 4, 40, 10 ** 30, -10 ** 30]:
                self.refused("BadThing", call, cases.GOOD_TABLE, [[], [], []], thing)
                self.refused("BadThing", call, cases.GOOD_TABLE, [[2], [], []], thing)

    def test_things_end_with_the_table(self):
        for call in [steps, awarded]:
            self.refused("BadThing", call, [[]], [[]], 0)
            for things in range(1, 41):
                self.assertTrue(call([[1] * things], [[]], things - 1))
                self.refused("BadThing", call, [[1] * things], [[]], things)

    def test_a_thing_that_an_heir_has(self):
        for call in [steps, awarded]:
            for heir in range(3):
                for thing in range(3):
                    shares = cases.with_item([[], [], []], heir, [thing])
                    self.refused("BadThing", call, cases.GOOD_TABLE, shares, thing)
            for thing in range(3):
                self.refused("BadThing", call, cases.GOOD_TABLE, cases.GOOD_SHARES, thing)


class GivingHandedInTest(unittest.TestCase):
    def test_nothing_is_changed(self):
        for table, shares, thing in all_givings():
            for call in [steps, awarded]:
                _, same = cases.same_before_and_after(call, table, shares, thing)
                self.assertTrue(same)

    def test_nothing_refused_is_changed(self):
        for call in [steps, awarded]:
            for shares, thing in [([[0], [1]], 1), ([[0], [1]], 9), ([[0], [0]], 1), ([[1, 0], []], 2)]:
                handed = ([[1, 2, 0], [2, 1, 0]], shares, thing)
                before = copy.deepcopy(handed)
                with self.assertRaises(ValueError):
                    call(*handed)
                self.assertEqual(handed, before)

    def test_lists_that_were_told_are_their_askers_own(self):
        for table, shares, thing in [([[1, 2, 0], [2, 1, 0]], [[0], [1]], 2), ([[1, 2, 0]] * 3, [[], [1], []], 0)]:
            for call in [steps, awarded]:
                told = call(table, shares, thing)
                before = copy.deepcopy(told)
                told.append(None)
                told.reverse()
                self.assertEqual(call(table, shares, thing), before)
            for share in awarded(table, shares, thing):
                share.append("more")
            self.assertEqual(awarded(table, shares, thing), before)

    def test_awarded_shares_are_none_of_those_handed_in(self):
        empty = []
        table = [[1, 2, 0]] * 4
        shares = [[0], [1], empty, empty]
        told = awarded(table, shares, 2)
        for share in told:
            self.assertFalse(any(share is other for other in shares + table))
            self.assertEqual(sum(share is other for other in told), 1)
        told[3].append(7)
        self.assertEqual((told, empty), ([[0], [1], [2], [7]], []))
        told = awarded(table, shares, 2)
        for share in shares:
            share.clear()
        table[0].clear()
        self.assertEqual(told, [[0], [1], [2], []])

    def test_what_its_asker_changes_is_asked_as_it_is_then(self):
        table, shares = [[1, 2, 0], [2, 1, 0]], [[0], [1]]
        first, second = steps(table, shares, 2), awarded(table, shares, 2)
        before = copy.deepcopy((first, second))
        table[0][0] = 2
        self.assertEqual(steps(table, shares, 2), [("give", 2, 1)])
        self.assertEqual(awarded(table, shares, 2), [[0], [1, 2]])
        shares[0].clear()
        self.assertEqual(steps(table, shares, 2), [("give", 2, 0)])
        self.assertEqual((first, second), before)

    def test_named_arguments_and_home(self):
        self.assertEqual(steps(table=[[1]], shares=[[]], thing=0), [("give", 0, 0)])
        self.assertEqual(awarded(table=[[1]], shares=[[]], thing=0), [[0]])
        for function in [steps, awarded]:
            self.assertEqual(function.__module__, "thingdeal.giving")


if __name__ == "__main__":
    unittest.main()
