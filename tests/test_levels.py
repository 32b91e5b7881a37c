import random
import unittest

import support
from leafturner import levels, sections
from leafturner.errors import BadNumber, NoAnswer, NotMachine, NotWord
from test_machines import WRONG
from test_words import NINE, NO_WORDS

FIRST = support.FIRST
FOUR = support.FOUR_STATES
GREAT = support.GREAT

# The greatest level that may be told for each number of digits.
GREATEST = {2: 12, 3: 7, 4: 6}


def some_pairs(seed, count, letters):
    rng = random.Random(seed)
    chosen = support.MACHINES + tuple(support.some_machines(seed, 15, 5))
    return [(machine, support.some_word(rng, machine, letters)) for machine in chosen for _ in range(count)]


def numbers_slowly(machine, word, level):
    strings = support.strings_of_length(machine[0], level)
    return tuple([int("0" + support.image_by_word(machine, word, string), machine[0]) for string in strings])


def cycles_slowly(numbers):
    result = []
    for start in range(len(numbers)):
        cycle = [start]
        while numbers[cycle[-1]] != start:
            cycle.append(numbers[cycle[-1]])
        if start == min(cycle):
            result.append(cycle)
    return result


class Strings(unittest.TestCase):
    """[100]."""

    def test_known_levels(self):
        self.assertEqual(levels.strings_of(2, 0), [""])
        self.assertEqual(levels.strings_of(3, 1), ["0", "1", "2"])
        self.assertEqual(levels.strings_of(2, 3), ["000", "001", "010", "011", "100", "101", "110", "111"])

    def test_all_levels(self):
        for k, greatest in GREATEST.items():
            for level in range(greatest + 1):
                found = levels.strings_of(k, level)
                self.assertEqual(found, support.strings_of_length(k, level))
                self.assertEqual([int("0" + string, k) for string in found], list(range(k ** level)))
                self.assertLessEqual(len(found), 4096)
        self.assertEqual(len(levels.strings_of(2, 12)), 4096)
        self.assertEqual(len(levels.strings_of(4, 6)), 4096)
        self.assertEqual(len(levels.strings_of(3, 7)), 2187)

    def test_other_levels(self):
        for k, greatest in GREATEST.items():
            for level in (-1, -2, greatest + 1, greatest + 2, 13, 100, GREAT, -GREAT):
                self.assertRaises(BadNumber, levels.strings_of, k, level)

    def test_other_digits(self):
        for k in (1, 5, 0, -1, 10, GREAT, -GREAT):
            for level in (0, 1, -1, GREAT):
                self.assertRaises(BadNumber, levels.strings_of, k, level)

    def test_results_are_not_shared(self):
        for level in (0, 2):
            found = levels.strings_of(2, level)
            found.append("x")
            self.assertNotIn("x", levels.strings_of(2, level))


class Permutations(unittest.TestCase):
    """[100], [101] and [102]."""

    def test_the_example(self):
        """[108]."""
        self.assertEqual(levels.level_permutation(FIRST, "a", 2), (2, 3, 1, 0))
        for level in range(13):
            self.assertIs(levels.is_round(FIRST, "a", level), True)

    def test_against_images_of_all_strings(self):
        for machine, word in some_pairs(100, 4, 5):
            for level in range(5):
                self.assertEqual(levels.level_permutation(machine, word, level), numbers_slowly(machine, word, level))

    def test_the_level_0(self):
        for machine, word in some_pairs(101, 2, 5):
            self.assertEqual(levels.level_permutation(machine, word, 0), (0,))
            self.assertEqual(levels.cycles(machine, word, 0), [[0]])
            self.assertIs(levels.is_round(machine, word, 0), True)

    def test_4096_strings(self):
        for machine, word, level in ((FIRST, "aab", 12), (FOUR, "abacad", 12), (support.FOUR_DIGITS, "aBc", 6),
                                     (support.THREE_DIGITS, "abAB", 7)):
            found = levels.level_permutation(machine, word, level)
            strings = support.strings_of_length(machine[0], level)
            self.assertEqual(len(found), len(strings))
            for number in range(0, len(strings), 97):
                image = support.image_by_word(machine, word, strings[number])
                self.assertEqual(found[number], int(image, machine[0]))

    def test_words_of_60_letters(self):
        self.assertEqual(levels.level_permutation(FIRST, "a" * 60, 3), levels.level_permutation(FIRST, "aaaa", 3))
        self.assertEqual(levels.level_permutation(FIRST, "aA" * 30, 2), (0, 1, 2, 3))

    def test_products_undone_and_equal_words(self):
        rng = random.Random(102)
        for machine, word in some_pairs(102, 3, 4):
            other = support.some_word(rng, machine, 4)
            one = levels.level_permutation(machine, word, 3)
            two = levels.level_permutation(machine, other, 3)
            self.assertEqual(levels.level_permutation(machine, word + other, 3), tuple([two[x] for x in one]))
            undone = levels.level_permutation(machine, support.undone_slowly(word), 3)
            self.assertEqual([undone[x] for x in one], list(range(len(one))))
        for level in range(8):
            self.assertEqual(levels.level_permutation(FOUR, "bc", level), levels.level_permutation(FOUR, "d", level))

    def test_levels_over_each_other(self):
        for machine, word in some_pairs(103, 3, 4):
            k = machine[0]
            for level in range(4):
                below = levels.level_permutation(machine, word, level)
                above = levels.level_permutation(machine, word, level + 1)
                self.assertEqual([x // k for x in above], [below[number // k] for number in range(len(above))])


class Cycles(unittest.TestCase):
    """[104] and [105]."""

    def test_known_cycles(self):
        self.assertEqual(levels.cycles(FIRST, "a", 2), [[0, 2, 1, 3]])
        self.assertEqual(levels.cycles(FIRST, "aa", 2), [[0, 1], [2, 3]])
        self.assertEqual(levels.cycles(FIRST, "b", 1), [[0], [1]])
        self.assertEqual(levels.cycles(FIRST, "A", 2), [[0, 3, 1, 2]])

    def test_against_going_around(self):
        for machine, word in some_pairs(104, 4, 5):
            for level in range(5):
                found = levels.cycles(machine, word, level)
                self.assertEqual(found, cycles_slowly(numbers_slowly(machine, word, level)))
                self.assertEqual([cycle[0] for cycle in found], sorted([min(cycle) for cycle in found]))
                self.assertIs(levels.is_round(machine, word, level), len(found) == 1)

    def test_lengths_over_one_cycle(self):
        for machine, word in some_pairs(105, 3, 4):
            k = machine[0]
            for level in range(3):
                above = levels.cycles(machine, word, level + 1)
                for cycle in levels.cycles(machine, word, level):
                    over = [len(longer) for longer in above if longer[0] // k in cycle]
                    self.assertTrue(all([length % len(cycle) == 0 for length in over]))
                    self.assertEqual(sum(over), k * len(cycle))

    def test_round_words_go_on_by_their_sections(self):
        """[105]."""
        answers = {True: 0, False: 0}
        for machine, word in some_pairs(106, 6, 3):
            for level in range(3):
                if levels.is_round(machine, word, level):
                    for string in support.strings_of_length(machine[0], level):
                        part = support.section_slowly(machine, word * machine[0] ** level, string)
                        further = len(cycles_slowly(numbers_slowly(machine, part, 1))) == 1
                        self.assertIs(levels.is_round(machine, word, level + 1), further)
                        answers[further] += 1
        self.assertGreater(min(answers.values()), 20)

    def test_no_list_is_shared(self):
        found = levels.cycles(FIRST, "b", 1)
        found[0].append(9)
        found.append([])
        self.assertEqual(found, [[0, 9], [1], []])
        self.assertEqual(levels.cycles(FIRST, "b", 1), [[0], [1]])


class OddLevels(unittest.TestCase):
    """[106]."""

    def test_known_words(self):
        self.assertEqual(levels.odd_levels(FIRST, "a", 12), list(range(12)))
        self.assertEqual(levels.odd_levels(FIRST, "a", 0), [])
        self.assertEqual(levels.odd_levels(FIRST, "aa", 12), [])
        self.assertEqual(levels.odd_levels(FOUR, "a", 5), [0])

    def test_against_counting_strings(self):
        found = {}
        for machine, word in some_pairs(107, 6, 5):
            if machine[0] != 2:
                continue
            expected = []
            for n in range(6):
                many = 0
                for string in support.strings_of_length(2, n):
                    part = support.section_slowly(machine, word, string)
                    many += support.image_by_word(machine, part, "0") == "1"
                if many % 2 == 1:
                    expected.append(n)
            for level in range(7):
                self.assertEqual(levels.odd_levels(machine, word, level), [n for n in expected if n < level])
                self.assertIs(levels.is_round(machine, word, level),
                              levels.odd_levels(machine, word, level) == list(range(level)))
            found[tuple(expected)] = True
        self.assertGreater(len(found), 8)

    def test_products(self):
        rng = random.Random(108)
        for machine in [machine for machine in support.MACHINES if machine[0] == 2]:
            for _ in range(10):
                one, other = support.some_word(rng, machine, 5), support.some_word(rng, machine, 5)
                whole = set(levels.odd_levels(machine, one + other, 12))
                self.assertEqual(whole, set(levels.odd_levels(machine, one, 12))
                                 ^ set(levels.odd_levels(machine, other, 12)))

    def test_other_digits(self):
        for machine in (support.THREE_DIGITS, support.FOUR_DIGITS):
            for level in (0, 1, 6):
                self.assertRaises(NoAnswer, levels.odd_levels, machine, "a", level)
            for level in (-1, 8, GREAT):
                self.assertRaises(BadNumber, levels.odd_levels, machine, "a", level)
            self.assertRaises(NotWord, levels.odd_levels, machine, "z", 1)


class Errors(unittest.TestCase):
    FUNCTIONS = (levels.level_permutation, levels.cycles, levels.is_round, levels.odd_levels)

    def test_levels(self):
        machines = {2: FIRST, 3: support.THREE_DIGITS, 4: support.FOUR_DIGITS}
        for k, greatest in GREATEST.items():
            for function in self.FUNCTIONS:
                for level in (-1, greatest + 1, 13, 1000, GREAT, -GREAT):
                    self.assertRaises(BadNumber, function, machines[k], "a", level)
            self.assertEqual(len(levels.level_permutation(machines[k], "a", greatest)), k ** greatest)

    def test_no_machine_and_no_word(self):
        for function in self.FUNCTIONS:
            for machine in tuple(WRONG.values()) + (NINE,):
                self.assertRaises(NotMachine, function, machine, "", 0)
                self.assertRaises(NotMachine, function, machine, "z", -1)
            for word in NO_WORDS:
                self.assertRaises(NotWord, function, FIRST, word, 1)
                self.assertRaises(NotWord, function, FIRST, word, -1)
                self.assertRaises(NotWord, function, FIRST, word, GREAT)

    def test_a_word_at_rest(self):
        self.assertEqual(sections.image_of(FIRST, "b", "01"), "01")
        self.assertEqual(levels.level_permutation(FIRST, "b", 2), (0, 1, 2, 3))


if __name__ == "__main__":
    unittest.main()
