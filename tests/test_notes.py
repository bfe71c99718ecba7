"""Point 13, and the interface's thingdeal/notes.py."""

import copy
import random
import re
import unittest

import cases
from refusals import RefusalCase
from thingdeal.notes import read, shown

NUMBERS = [str(thing) for thing in range(40)]

# Signs of which some look like a figure, a blank or a line end to Python, but are none here.
ODD_FIGURES = ["\u0661", "\u06f1", "\u0967", "\uff11", "\u00b2", "\u00b9", "\u2460", "\u2167", "\u00bd", "\U0001d7cf"]
ODD_BLANKS = ["\t", "\xa0", "\u2003", "\u3000", "\u200b", "\ufeff", "\x00", "\x1f"]
ODD_LINE_ENDS = ["\r", "\r\n", "\n\r", "\x0b", "\x0c", "\x1c", "\x1d", "\x1e", "\x85", "\u2028", "\u2029"]
SIGNS = list("0123456789: \n+-_.,;xaA") + ODD_FIGURES + ODD_BLANKS + ODD_LINE_ENDS + ["\uff1a", "\ud800"]

TEXTS = ["0:", "0: 0", "0: 39", "0: 9 10", "0: 1 4\n1:\n2: 0 2 3", "0: 10\n1: 1 11\n2:\n3: 0 3 30",
         "0:\n1:\n2:\n3:\n4:\n5:\n6:\n7:", "0: 7\n1: 6\n2: 5\n3: 4\n4: 3\n5: 2\n6: 1\n7: 0 38 39"]


def shares_by_words(text):
    """The shares that a text tells by point 13, or None."""
    shares = []
    for heir, row in enumerate(text.split("\n")):
        if heir > 7 or not re.fullmatch(r"[0-7]:( [0-9]{1,2})*", row):
            return None
        words = row[2:].split(" ")[1:]
        if row[0] != str(heir) or not all(word in NUMBERS for word in words):
            return None
        shares.append([NUMBERS.index(word) for word in words])
    held = [thing for share in shares for thing in share]
    if any(share != sorted(share) for share in shares) or len(held) != len(set(held)):
        return None
    return shares


def shares_of_many_sizes():
    chance = random.Random(70)
    return [cases.some_shares(chance, heirs, things, aside)
            for heirs in range(1, 9) for things in [0, 1, 2, 9, 10, 11, 25, 39, 40] for aside in [0, 3, 8]]


class ShownTest(RefusalCase):
    def test_examples(self):
        self.assertEqual(shown([[1, 4]]), "0: 1 4")
        self.assertEqual(shown([[]]), "0:")
        self.assertEqual(shown([[1, 4], [0, 2], []]), "0: 1 4\n1: 0 2\n2:")
        self.assertEqual(shown([[], [], [9, 10, 39], [0]]), "0:\n1:\n2: 9 10 39\n3: 0")
        self.assertEqual(shown([[]] * 8), "0:\n1:\n2:\n3:\n4:\n5:\n6:\n7:")

    def test_each_thing_by_its_figures(self):
        for thing in range(40):
            self.assertEqual(shown([[thing]]), "0: " + NUMBERS[thing])
            self.assertEqual(shown([[]] * 7 + [[thing]]), "0:\n1:\n2:\n3:\n4:\n5:\n6:\n7: " + NUMBERS[thing])

    def test_rows_of_many_sizes(self):
        for shares in shares_of_many_sizes():
            rows = ["".join([str(heir), ":"] + [" " + NUMBERS[thing] for thing in share])
                    for heir, share in enumerate(shares)]
            told = shown(shares)
            self.assertIs(type(told), str)
            self.assertEqual(told, "\n".join(rows))

    def test_all_things_in_one_share(self):
        self.assertEqual(shown([list(range(40))]), "0: " + " ".join(NUMBERS))

    def test_how_many_heirs(self):
        for many in range(12):
            if 1 <= many <= 8:
                self.assertEqual(shown([[]] * many).count(":"), many)
            else:
                self.refused("BadShares", shown, [[]] * many)

    def test_what_are_no_shares(self):
        for shares in cases.NO_LISTS + cases.unlisted([[0], [1]]) + [cases.endless(), [[0], [1], (2,)]]:
            self.refused("BadShares", shown, shares)
        for at in range(3):
            for share in cases.NO_LISTS + cases.unlisted([0, 2]):
                self.refused("BadShares", shown, cases.with_item([[], [], []], at, share))
            for odd in cases.NO_NUMBERS + [-1, -2, -40, 40, 41, 100, 10 ** 30, -10 ** 30]:
                for share in [[odd], [0, odd], [odd, 39]]:
                    self.refused("BadShares", shown, cases.with_item([[], [], []], at, share))

    def test_things_that_do_not_rise_or_stand_twice(self):
        for at in range(3):
            for share in [[0, 0], [39, 39], [1, 0], [39, 0], [0, 2, 1], [2, 1, 0], [0, 1, 1], [10, 9]]:
                self.refused("BadShares", shown, cases.with_item([[], [], []], at, share))
            for other in range(3):
                if other != at:
                    for thing in [0, 9, 39]:
                        one = cases.with_item([[], [], []], at, [thing])
                        self.refused("BadShares", shown, cases.with_item(one, other, [thing]))


class ReadTest(RefusalCase):
    def test_examples(self):
        self.assertEqual(read("0: 1 4"), [[1, 4]])
        self.assertEqual(read("0:"), [[]])
        self.assertEqual(read("0: 1 4\n1: 0 2\n2:"), [[1, 4], [0, 2], []])
        self.assertEqual(read("0:\n1:\n2: 9 10 39\n3: 0"), [[], [], [9, 10, 39], [0]])

    def test_what_was_shown_is_read_to_the_same_shares(self):
        for shares in shares_of_many_sizes():
            told = read(shown(shares))
            self.assertEqual(told, shares)
            self.assertIs(type(told), list)
            self.assertTrue(all(type(share) is list for share in told))
            self.assertTrue(all(type(thing) is int for share in told for thing in share))

    def test_each_thing(self):
        for thing in range(40):
            self.assertEqual(read(f"0:\n1: {thing}"), [[], [thing]])

    def test_a_thing_that_is_left_out_lies_aside(self):
        self.assertEqual(read("0: 39\n1: 3"), [[39], [3]])

    def check_read(self, text):
        """The text is read where it is such a text by the words, else refused; whether it is."""
        wanted = shares_by_words(text)
        if wanted is None:
            self.refused("BadNote", read, text)
            return False
        self.assertEqual(read(text), wanted, repr(text))
        self.assertEqual(shown(wanted), text)
        return True

    def test_a_sign_put_in_at_any_place(self):
        answers = [self.check_read(text[:at] + sign + text[at:])
                   for text in TEXTS for at in range(len(text) + 1) for sign in SIGNS]
        self.assertGreater(answers.count(True), 20)
        self.assertGreater(answers.count(False), 2000)

    def test_a_sign_left_out_at_any_place(self):
        answers = [self.check_read(text[:at] + text[at + 1:]) for text in TEXTS for at in range(len(text))]
        self.assertGreater(answers.count(True), 3)
        self.assertGreater(answers.count(False), 50)

    def test_a_sign_in_anothers_place(self):
        answers = [self.check_read(text[:at] + sign + text[at + 1:])
                   for text in TEXTS for at in range(len(text)) for sign in SIGNS]
        self.assertGreater(answers.count(True), 100)
        self.assertGreater(answers.count(False), 2000)

    def test_two_signs_that_change_places(self):
        for text in TEXTS:
            for at in range(len(text) - 1):
                self.check_read(text[:at] + text[at + 1] + text[at] + text[at + 2:])

    def test_a_row_twice_left_out_or_ahead_of_all(self):
        for text in TEXTS:
            rows = text.split("\n")
            for at, row in enumerate(rows):
                self.refused("BadNote", read, "\n".join(rows[:at] + [row] + rows[at:]))
                self.refused("BadNote", read, "\n".join(rows + [row]))
                if at < len(rows) - 1:
                    self.refused("BadNote", read, "\n".join(rows[:at] + rows[at + 1:]))
                if at > 0:
                    self.refused("BadNote", read, "\n".join([row] + rows[:at] + rows[at + 1:]))
            for row in ["", " ", ":", "0", "0:", "8:", "-1:"]:
                self.refused("BadNote", read, "\n".join([row] + rows))

    def test_rows_in_another_order(self):
        for text in ["1:\n0:", "1:", "0:\n2:", "0:\n2:\n1:", "7:", "0: 1\n0: 2", "1: 1\n0: 2"]:
            self.refused("BadNote", read, text)

    def test_a_ninth_heir(self):
        eight = "\n".join(f"{heir}:" for heir in range(8))
        self.assertEqual(read(eight), [[]] * 8)
        self.refused("BadNote", read, eight + "\n8:")
        self.refused("BadNote", read, eight + "\n8: 1\n9: 2")

    def test_no_heir_and_empty_texts(self):
        for text in ["", " ", "\n", "\n\n", ":", "0", "\t", "0: ", "0 :", " 0:", "0:\n", "\n0:", "0:\n\n1:", "0:1"]:
            self.refused("BadNote", read, text)

    def test_things_beyond(self):
        self.assertEqual(read("0: 39"), [[39]])
        for figures in ["40", "41", "99", "100", "390", "-1", "-0", "+1", "1" * 5000, "0" * 5000, "9" * 100000]:
            self.refused("BadNote", read, "0: " + figures)
            self.refused("BadNote", read, "0: 0 " + figures)
            self.refused("BadNote", read, figures + ":")

    def test_noughts_ahead(self):
        for text in ["0: 00", "0: 01", "0: 09", "0: 010", "00:", "00: 1", "0: 1\n01: 2", "0: 0 01", "0: 039"]:
            self.refused("BadNote", read, text)

    def test_things_that_do_not_rise_or_stand_in_two_rows(self):
        for text in ["0: 1 0", "0: 10 9", "0: 0 0", "0: 39 39", "0: 0 2 1", "0: 2 10 3"]:
            self.refused("BadNote", read, text)
        for thing in range(40):
            self.refused("BadNote", read, f"0: {thing}\n1: {thing}")
            self.refused("BadNote", read, f"0:\n1: {thing}\n2:\n3: {thing}")

    def test_line_ends_and_blanks(self):
        for text in TEXTS:
            for sign in ["\n", " ", "\t", "\n\n", "  "] + ODD_LINE_ENDS + ODD_BLANKS:
                self.refused("BadNote", read, text + sign)
                self.refused("BadNote", read, sign + text)
            if "\n" in text:
                for sign in ODD_LINE_ENDS + ODD_BLANKS + [" ", "", "\\n", " \n", "\n ", "\n\n"]:
                    self.refused("BadNote", read, text.replace("\n", sign))
            if " " in text:
                for sign in ODD_BLANKS + ["  ", "", ", ", ","]:
                    self.refused("BadNote", read, text.replace(" ", sign))

    def test_figures_that_are_none_of_0_to_9(self):
        for figure in ODD_FIGURES:
            for word in [figure, "1" + figure, figure + "0", "0 " + figure]:
                self.refused("BadNote", read, "0: " + word)
            self.refused("BadNote", read, figure + ":")
            self.refused("BadNote", read, "0:\n" + figure + ":")
        for word in ["one", "0x1", "1_0", "1.0", "1e1", "0b1", "I", "a"]:
            self.refused("BadNote", read, "0: " + word)

    def test_what_is_no_text(self):
        others = [other for other in cases.NO_NUMBERS + cases.NO_LISTS if type(other) is not str]
        for other in others + [b"0: 1", ["0: 1"], ("0:",), {"0:": 1}, [[1]], [[]], 7, -1, cases.endless(), object()]:
            self.refused("BadNote", read, other)


class NotesHandedInTest(unittest.TestCase):
    def test_nothing_is_changed(self):
        for shares in shares_of_many_sizes():
            _, same = cases.same_before_and_after(shown, shares)
            self.assertTrue(same)

    def test_nothing_refused_is_changed(self):
        for shares in [[[1, 0]], [[0], [0]], [[40]], [[]] * 9, []]:
            before = copy.deepcopy(shares)
            with self.assertRaises(ValueError):
                shown(shares)
            self.assertEqual(shares, before)

    def test_lists_that_were_told_are_their_askers_own(self):
        for text in TEXTS:
            told = read(text)
            before = copy.deepcopy(told)
            for share in told:
                self.assertEqual(sum(share is other for other in told), 1)
                share.append(5)
            told.append([])
            self.assertEqual(read(text), before)

    def test_what_its_asker_changes_is_shown_as_it_is_then(self):
        shares = [[0], [2]]
        text = shown(shares)
        shares[0].append(1)
        shares.append([])
        self.assertEqual((text, shown(shares)), ("0: 0\n1: 2", "0: 0 1\n1: 2\n2:"))

    def test_named_arguments_and_home(self):
        self.assertEqual(shown(shares=[[3]]), "0: 3")
        self.assertEqual(read(text="0: 3"), [[3]])
        for function in [shown, read]:
            self.assertEqual(function.__module__, "thingdeal.notes")


if __name__ == "__main__":
    unittest.main()
