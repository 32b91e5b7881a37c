import itertools
import random
import unittest

import support
from leafturner import words
from leafturner.errors import NotMachine, NotWord
from test_machines import WRONG

FIRST = support.FIRST
EIGHT = support.cycle(2, 8)
NINE = support.cycle(2, 9)

# Texts that are no words of a machine with two states.
NO_WORDS = ("c", "C", "h", "i", "I", "z", "aac", "0", "1", " ", "a b", "-", "a\n", "\u00e4", "a" * 61, "aA" * 31)


class Checking(unittest.TestCase):
    """[20]."""

    def test_words(self):
        for word in ("", "a", "B", "aAbB", "a" * 60, "aB" * 30):
            self.assertIsNone(words.check_word(FIRST, word))
        for word in NO_WORDS:
            self.assertRaises(NotWord, words.check_word, FIRST, word)

    def test_the_letters_are_those_of_the_states(self):
        for states in range(1, 9):
            machine = support.cycle(3, states)
            for index in range(26):
                for letter in ("abcdefghijklmnopqrstuvwxyz"[index], "ABCDEFGHIJKLMNOPQRSTUVWXYZ"[index]):
                    if index < states:
                        self.assertIsNone(words.check_word(machine, letter))
                    else:
                        self.assertRaises(NotWord, words.check_word, machine, letter)
        self.assertIsNone(words.check_word(EIGHT, "abcdefghHGFEDCBA"))

    def test_machines(self):
        for machine in tuple(WRONG.values()) + (NINE, support.cycle(2, 200)):
            for word in ("", "a", "z"):
                self.assertRaises(NotMachine, words.check_word, machine, word)
                self.assertRaises(NotMachine, words.cut_word, machine, word)
                self.assertRaises(NotMachine, words.undone_word, machine, word)
                self.assertRaises(NotMachine, words.is_before, machine, word, "z")

    def test_wrong_words(self):
        for word in NO_WORDS:
            self.assertRaises(NotWord, words.cut_word, FIRST, word)
            self.assertRaises(NotWord, words.undone_word, FIRST, word)
            self.assertRaises(NotWord, words.is_before, FIRST, word, "")
            self.assertRaises(NotWord, words.is_before, FIRST, "", word)


class Cutting(unittest.TestCase):
    """[22]."""

    def test_cutting(self):
        cuts = {"": "", "a": "a", "aA": "", "Aa": "", "aa": "aa", "ab": "ab", "aB": "aB", "abB": "a", "bBa": "a",
                "abBA": "", "aAa": "a", "AaA": "A", "aabBAA": "", "abBAb": "b", "aAbB": "", "aAbBa": "a",
                "abAB": "abAB", "BabBAb": "", "baAbBa": "ba", "a" * 60: "a" * 60, "aA" * 30: ""}
        for word, cut in cuts.items():
            self.assertEqual(words.cut_word(FIRST, word), cut)
        self.assertEqual(words.cut_word(EIGHT, "abcdefghHGFEDCBA"), "")
        self.assertEqual(words.cut_word(EIGHT, "ghHa"), "ga")

    def test_cutting_goes_on_after_a_cut(self):
        self.assertEqual(words.cut_word(FIRST, "b" * 20 + "a" * 10 + "A" * 10 + "B" * 19), "b")
        self.assertEqual(words.cut_word(FIRST, "a" * 30 + "A" * 30), "")

    def test_the_order_of_cuts_does_not_matter(self):
        rng = random.Random(21)
        for _ in range(200):
            word = support.some_word(rng, FIRST, 20)
            cut = words.cut_word(FIRST, word)
            self.assertEqual(cut, support.cut_slowly(word))
            self.assertEqual(words.cut_word(FIRST, cut), cut)

    def test_the_cut_word_acts_as_the_word(self):
        rng = random.Random(22)
        for machine in support.MACHINES:
            for _ in range(10):
                word = support.some_word(rng, machine, 8)
                cut = words.cut_word(machine, word)
                for string in support.strings_of_length(machine[0], 4):
                    self.assertEqual(support.image_by_word(machine, cut, string),
                                     support.image_by_word(machine, word, string))


class Undoing(unittest.TestCase):
    """[23]."""

    def test_undone_words(self):
        undone = {"": "", "a": "A", "B": "b", "ab": "BA", "aB": "bA", "aA": "aA", "aab": "BAA"}
        for word, other in undone.items():
            self.assertEqual(words.undone_word(FIRST, word), other)
            self.assertEqual(words.undone_word(FIRST, other), word)
        self.assertEqual(words.undone_word(EIGHT, "abcdefgH"), "hGFEDCBA")
        self.assertEqual(words.undone_word(FIRST, "aaB" * 20), "bAA" * 20)

    def test_undone_words_are_not_cut(self):
        self.assertEqual(words.undone_word(FIRST, "bBa"), "AbB")

    def test_undone_words_lead_back(self):
        rng = random.Random(23)
        for machine in support.MACHINES:
            for _ in range(10):
                word = support.some_word(rng, machine, 8)
                undone = words.undone_word(machine, word)
                self.assertEqual(words.cut_word(machine, word + undone), "")
                for string in support.strings_of_length(machine[0], 4):
                    self.assertEqual(support.image_by_word(machine, word + undone, string), string)


class Order(unittest.TestCase):
    """[20]."""

    def test_the_letters(self):
        letters = "aAbBcCdDeEfFgGhH"
        for i, one in enumerate(letters):
            for j, other in enumerate(letters):
                self.assertIs(words.is_before(EIGHT, one, other), i < j)

    def test_longer_words_come_later(self):
        self.assertIs(words.is_before(FIRST, "", "a"), True)
        self.assertIs(words.is_before(FIRST, "B", "aa"), True)
        self.assertIs(words.is_before(FIRST, "aa", "B"), False)
        self.assertIs(words.is_before(FIRST, "a" * 60, "a" * 59), False)

    def test_all_short_words(self):
        machine = support.cycle(2, 3)
        listed = ["".join(word) for n in range(3) for word in itertools.product("aAbBcC", repeat=n)]
        for i, one in enumerate(listed):
            for j, other in enumerate(listed):
                self.assertIs(words.is_before(machine, one, other), i < j)

    def test_words_are_taken_as_they_are(self):
        self.assertIs(words.is_before(FIRST, "aA", "b"), False)
        self.assertIs(words.is_before(FIRST, "b", "aA"), True)


if __name__ == "__main__":
    unittest.main()
