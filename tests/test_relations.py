import random
import unittest
from unittest import mock

import support
from leafturner import growth, relations
from leafturner.errors import BadNumber, NotMachine, NotWord, TooLarge
from test_machines import WRONG
from test_words import NINE, NO_WORDS

FIRST = support.FIRST
FOUR = support.FOUR_STATES
FREE = support.FREE
LAMPS = support.LAMPS
GREAT = support.GREAT

# a and b undo themselves, ab is endless, and c rests.
TWO_MIRRORS = (2, (((1, 2), (0, 2)), ((0, 0), (1, 1)), ((0, 2), (1, 2))))
# a turns all digits one further, and b the first one alone.
TURNS = (3, (((1, 0), (2, 0), (0, 0)), ((0, 1), (1, 1), (2, 1))))
ONE_STATE = (2, (((1, 0), (0, 0)),))
WITH_LENGTH = (relations.first_relation, relations.relations, relations.basic_relations)


def cut_words(machine, length):
    return [word for word in support.words_up_to(machine, length) if word and support.cut_slowly(word) == word]


def relations_slowly(machine, length):
    return [word for word in cut_words(machine, length) if support.closed_slowly(machine, word)[1]]


def rotations(word):
    return [word[at:] + word[:at] for at in range(len(word))]


def basic_slowly(machine, length):
    found = relations_slowly(machine, length)
    basic = []
    for word in found:
        parts = [other for other in found if len(other) < len(word)
                 and any([other in rotation for rotation in rotations(word)])]
        undone = support.undone_slowly(word)
        kind = rotations(word) + [undone] + rotations(undone)
        if not parts and min(kind, key=support.order_key) == word:
            basic.append(word)
    return basic


def some_machines(seed, count):
    return [FIRST, LAMPS, TWO_MIRRORS, TURNS, ONE_STATE] + support.some_machines(seed, count, 2)


class SingleWords(unittest.TestCase):
    """[184] for one word."""

    def test_known_words(self):
        for word in ("b", "B", "bb", "ba" + "BA", "abA", "bbbb"):
            self.assertIs(relations.is_relation(FIRST, word), True, word)
        for word in ("a", "A", "ab", "aa", "aB", "a" * 60):
            self.assertIs(relations.is_relation(FIRST, word), False, word)
        for word in ("aa", "bb", "cc", "e", "adadadad", "bcd"):
            self.assertIs(relations.is_relation(FOUR, word), True, word)
        self.assertIs(relations.is_relation(FOUR, "adad"), False)

    def test_words_that_are_not_cut_and_the_empty_word(self):
        """They are at rest, and are no relations."""
        for machine in support.MACHINES:
            self.assertIs(relations.is_relation(machine, ""), False)
            for word in ("aA", "Aa", "aAbB", "aABb"):
                self.assertIs(relations.is_relation(machine, word), False, word)
        self.assertIs(relations.is_relation(FIRST, "bbB"), False)
        self.assertIs(relations.is_relation(FIRST, "baA"), False)
        self.assertIs(relations.is_relation(FOUR, "aaeE"), False)

    def test_words_of_60_letters(self):
        self.assertIs(relations.is_relation(FIRST, "b" * 60), True)
        self.assertIs(relations.is_relation(FIRST, "a" * 30 + "b" * 2 + "A" * 28), False)
        self.assertIs(relations.is_relation(FIRST, "a" * 29 + "b" * 2 + "A" * 29), True)

    def test_against_closed_lists(self):
        rng = random.Random(1840)
        answers = {True: 0, False: 0}
        for machine in some_machines(1840, 15) + [FOUR]:
            for _ in range(12):
                word = support.some_word(rng, machine, 4)
                expected = word != "" and support.cut_slowly(word) == word and support.closed_slowly(machine, word)[1]
                self.assertIs(relations.is_relation(machine, word), expected)
                answers[expected] += 1
        self.assertGreater(min(answers.values()), 15)

    def test_too_large(self):
        self.assertIs(relations.is_relation(*support.AT_LIMIT), True)
        try:
            self.assertIs(relations.is_relation(*support.OVER_LIMIT), True)
        except TooLarge:
            pass

    def test_no_words(self):
        for word in tuple(NO_WORDS) + ("a" * 61,):
            self.assertRaises(NotWord, relations.is_relation, FIRST, word)
        for machine in tuple(WRONG.values()) + (NINE,):
            self.assertRaises(NotMachine, relations.is_relation, machine, "z")


class Lists(unittest.TestCase):
    """[184] and [181]."""

    def test_the_example(self):
        """[187]."""
        for length in range(1, 13):
            self.assertEqual(relations.first_relation(FIRST, length), "b")
        self.assertEqual(relations.relations(FIRST, 1), ["b", "B"])
        self.assertEqual(relations.relations(FIRST, 2), ["b", "B", "bb", "BB"])
        self.assertEqual(relations.basic_relations(FIRST, 7), ["b"])

    def test_against_all_cut_words_one_by_one(self):
        kinds = {}
        for machine in some_machines(1841, 20):
            for length in (1, 2, 3, 4) if len(machine[1]) < 3 else (1, 2, 3):
                expected = relations_slowly(machine, length)
                self.assertEqual(relations.relations(machine, length), expected)
                self.assertEqual(relations.first_relation(machine, length), expected[0] if expected else None)
                self.assertEqual(relations.basic_relations(machine, length), basic_slowly(machine, length))
                kinds[tuple(basic_slowly(machine, length))] = True
        self.assertGreater(len(kinds), 8)
        self.assertEqual(relations.relations(FOUR, 2), relations_slowly(FOUR, 2))
        self.assertEqual(relations.basic_relations(FOUR, 3), basic_slowly(FOUR, 3))

    def test_longer_basic_relations(self):
        for machine, length in ((LAMPS, 6), (TWO_MIRRORS, 4), (TURNS, 6), (ONE_STATE, 12)):
            self.assertEqual(relations.basic_relations(machine, length), basic_slowly(machine, length))
        self.assertEqual(relations.basic_relations(TURNS, 4), ["b", "aaa"])
        self.assertEqual(relations.basic_relations(TWO_MIRRORS, 5), ["c", "aa", "bb"])
        self.assertEqual(relations.basic_relations(FOUR, 3), ["e", "aa", "bb", "cc", "dd", "bcd", "bcD", "bCd", "bCD",
                                                              "bdc", "bdC", "bDc", "bDC"])

    def test_rotations_are_not_cut(self):
        """A rotation that is not cut stands for itself: a shorter relation is a part of it, or none is."""
        found = relations.relations(FIRST, 5)
        self.assertIn("abA", found)
        # Its rotations bAa and Aab come behind it, and have the part b.
        self.assertNotIn("abA", relations.basic_relations(FIRST, 5))
        self.assertIn("aabAA", found)
        with mock.patch.object(relations, "first_moved", lambda tidy, word: None if word == "abA" else "0"):
            self.assertEqual(relations.relations(FIRST, 5), ["abA"])
            self.assertEqual(relations.basic_relations(FIRST, 5), ["abA"])
        with mock.patch.object(relations, "first_moved", lambda tidy, word: None if word == "Aba" else "0"):
            # Its rotation aAb is the first one, although it is not cut.
            self.assertEqual(relations.relations(FIRST, 5), ["Aba"])
            self.assertEqual(relations.basic_relations(FIRST, 5), [])

    def test_parts_over_the_end_of_a_word(self):
        def told(words):
            return mock.patch.object(relations, "first_moved", lambda tidy, word: None if word in words else "0")

        with told(("aab", "aabb")):
            self.assertEqual(relations.basic_relations(FIRST, 5), ["aab"])
        # The part stands in a rotation of the second word alone.
        with told(("BAA", "abba", "aabb")):
            self.assertEqual(relations.basic_relations(FIRST, 4), ["aabb"])
        with told(("baa", "aabb")):
            self.assertEqual(relations.basic_relations(FIRST, 4), [])
        # A relation of the same length is no shorter one.
        with told(("abab", "aabb")):
            self.assertEqual(relations.basic_relations(FIRST, 4), ["aabb", "abab"])

    def test_rotations_and_undone_relations(self):
        for machine in some_machines(1842, 10):
            known = relations.relations(machine, 4) if len(machine[1]) < 3 else relations.relations(machine, 3)
            for word in known:
                for other in rotations(word) + [support.undone_slowly(word)]:
                    self.assertIn(support.cut_slowly(other), known + [""])

    def test_first_relation_at_exactly_the_length(self):
        for machine in some_machines(1843, 20):
            first = relations.first_relation(machine, 4)
            if first is not None:
                self.assertEqual(relations.first_relation(machine, len(first)), first)
                if len(first) > 1:
                    self.assertIsNone(relations.first_relation(machine, len(first) - 1))
        lone = (2, (((1, 0), (0, 0)),))
        self.assertIsNone(relations.first_relation(lone, 1))
        self.assertEqual(relations.first_relation(lone, 2), "aa")
        self.assertEqual(relations.first_relation((4, (((1, 0), (2, 0), (3, 0), (0, 0)),)), 4), "aaaa")
        self.assertIsNone(relations.first_relation((4, (((1, 0), (2, 0), (3, 0), (0, 0)),)), 3))

    def test_no_relations(self):
        self.assertIsNone(relations.first_relation(FREE, 4))
        self.assertEqual(relations.relations(FREE, 4), [])
        self.assertEqual(relations.basic_relations(FREE, 4), [])

    def test_growth_below_half_of_the_first_relation(self):
        """[185]."""
        seen = {}
        for machine in some_machines(1844, 20) + [FREE]:
            first = relations.first_relation(machine, 5)
            r = 6 if first is None else len(first)
            m = len(machine[1])
            for n in range(1, (r + 1) // 2):
                self.assertEqual(growth.growth(machine, n)[n], 2 * m * (2 * m - 1) ** (n - 1))
            seen[r] = True
        self.assertGreater(len(seen), 3)


class Errors(unittest.TestCase):
    def test_5000_words(self):
        """Of 1, 2, 3, 4, 5 and 8 states: the greatest length with at most 5000 cut words."""
        for states, length in ((2, 7), (3, 5), (4, 4), (5, 3), (8, 3)):
            machine = support.cycle(2, states)
            words = relations.relations((2, (((0, 0), (1, 0)),) * states), length)
            m = states
            self.assertEqual(len(words), sum([2 * m * (2 * m - 1) ** n for n in range(length)]))
            self.assertLessEqual(len(words), 5000)
            self.assertGreater(len(words) + 2 * m * (2 * m - 1) ** length, 5000)
            for function in (relations.relations, relations.basic_relations):
                function(machine, length)
                for greater in range(length + 1, 13):
                    self.assertRaises(TooLarge, function, machine, greater)
        self.assertEqual(len(relations.relations((2, (((0, 0), (1, 0)),)), 12)), 24)

    def test_the_first_relation_among_5000_words(self):
        words = cut_words((2, (((0, 0), (1, 0)),) * 2), 8)
        self.assertEqual(words[4371], "B" * 7)
        for place, expected in ((4999, True), (5000, False), (6000, False), (len(words) - 1, False)):
            with mock.patch.object(relations, "first_moved",
                                   lambda tidy, word, first=words[place]: None if word == first else "0"):
                if expected:
                    self.assertEqual(relations.first_relation(FIRST, 8), words[place])
                    self.assertEqual(relations.first_relation(FIRST, 12), words[place])
                else:
                    self.assertRaises(TooLarge, relations.first_relation, FIRST, 8)
                self.assertIsNone(relations.first_relation(FIRST, 7))
                self.assertRaises(TooLarge, relations.relations, FIRST, 8)
        self.assertRaises(TooLarge, relations.first_relation, FREE, 6)
        self.assertIsNone(relations.first_relation(FREE, 5))
        self.assertRaises(TooLarge, relations.first_relation, FREE, 12)
        self.assertEqual(relations.first_relation(support.OVER_LIMIT[0], 12), "a")

    def test_lengths(self):
        for function in WITH_LENGTH:
            for length in (0, 13, -1, 1000, GREAT, -GREAT):
                self.assertRaises(BadNumber, function, FIRST, length)
                self.assertRaises(BadNumber, function, FREE, length)
            for machine in tuple(WRONG.values()) + (NINE,):
                self.assertRaises(NotMachine, function, machine, 0)

    def test_results_are_not_shared(self):
        for function in (relations.relations, relations.basic_relations):
            found = function(FIRST, 1)
            found.clear()
            self.assertNotEqual(function(FIRST, 1), [])


if __name__ == "__main__":
    unittest.main()
