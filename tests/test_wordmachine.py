import random
import unittest

import support
from leafturner import closed, least, machines, sections, wordmachine
from leafturner.errors import BadNumber, NotMachine, NotString, NotWord, TooLarge
from test_machines import WRONG
from test_words import NINE, NO_WORDS

FIRST = support.FIRST
FOUR = support.FOUR_STATES
FREE = support.FREE
EXAMPLE = (2, (((1, 1), (0, 0)), ((0, 1), (1, 1))))

# Words with exactly 1000 section words, all of them different, and 23 different ones; then two with 1001.
AT_LIMIT = ((3, (((1, 1), (2, 2), (0, 1)), ((2, 0), (0, 0), (1, 0)), ((1, 2), (0, 1), (2, 1)))), "aaacBCcac")
AT_LIMIT_FEW = ((2, (((0, 0), (1, 5)), ((1, 7), (0, 7)), ((1, 3), (0, 2)), ((1, 3), (0, 1)), ((0, 2), (1, 2)),
                     ((1, 7), (0, 0)), ((1, 6), (0, 7)), ((1, 2), (0, 2)))), "EecAABegcAFd")
OVER_LIMIT = ((3, (((2, 0), (1, 2), (0, 1)), ((1, 1), (2, 2), (0, 2)), ((2, 1), (0, 0), (1, 1)))), "aCAbCCAcBA")
OVER_LIMIT_FEW = ((2, (((0, 7), (1, 7)), ((0, 3), (1, 5)), ((0, 3), (1, 7)), ((0, 3), (1, 3)), ((1, 6), (0, 3)),
                       ((0, 6), (1, 3)), ((1, 6), (0, 0)), ((1, 6), (0, 1)))), "ehhbgBbbC")


def some_pairs(seed, count, letters):
    rng = random.Random(seed)
    chosen = support.MACHINES + tuple(support.some_machines(seed, 12, 4))
    return [(machine, support.some_word(rng, machine, letters)) for machine in chosen for _ in range(count)]


def sections_slowly(machine, word):
    """The different sections: for each section word the number of its class, found by comparing the words."""
    found, _ = support.closed_slowly(machine, word)
    firsts = []
    numbers = {}
    for part in found:
        equal = [number for number, first in enumerate(firsts) if closed.are_equal(machine, first, part)]
        if not equal:
            equal = [len(firsts)]
            firsts.append(part)
        numbers[part] = equal[0]
    return firsts, numbers


def machine_slowly(machine, word):
    firsts, numbers = sections_slowly(machine, word)
    rows = []
    for first in firsts:
        row = []
        for x in range(machine[0]):
            section = support.cut_slowly(support.section_slowly(machine, first, str(x)))
            row.append((int(support.image_by_word(machine, first, str(x))), numbers[section]))
        rows.append(tuple(row))
    return (machine[0], tuple(rows))


def depth_slowly(machine, word, most):
    for level in range(most + 1):
        parts = [support.section_slowly(machine, word, string)
                 for string in support.strings_of_length(machine[0], level)]
        if all([closed.is_at_rest(machine, part) for part in parts]):
            return level
    return None


def short_machine(rng, k, states):
    """A machine each of whose states leads to states behind it, and at last to one at rest."""
    rows = []
    for state in range(states - 1):
        outs = list(range(k))
        rng.shuffle(outs)
        rows.append(tuple([(out, rng.randint(state + 1, states - 1)) for out in outs]))
    return (k, tuple(rows) + (tuple([(x, states - 1) for x in range(k)]),))


class SectionWords(unittest.TestCase):
    """[60] and [24]."""

    def test_known_words(self):
        self.assertEqual(wordmachine.section_words(FIRST, "aa"), ["aa", "ba", "ab", "bb"])
        self.assertEqual(wordmachine.section_words(FIRST, "A"), ["A", "B"])
        self.assertEqual(wordmachine.section_words(FOUR, "bcd"), ["bcd", "aae", "cdb", "eee", "aea", "dbc", "eaa"])

    def test_the_empty_word(self):
        for machine in support.MACHINES:
            for word in ("", "aA", "aAAa"):
                self.assertEqual(wordmachine.section_words(machine, word), [""])

    def test_words_that_are_not_cut(self):
        self.assertEqual(wordmachine.section_words(FIRST, "abB"), ["a", "b"])
        self.assertEqual(wordmachine.section_words(FIRST, "Aaab"), ["ab", "bb"])
        for machine, word in some_pairs(59, 4, 3):
            letter = support.letters_of(machine)[-1]
            for longer in (letter + letter.swapcase() + word, word + "aA", word[:1] + "Aa" + word[1:]):
                self.assertEqual(wordmachine.section_words(machine, longer), wordmachine.section_words(machine, word))

    def test_the_order_digit_by_digit(self):
        for machine, word in some_pairs(60, 8, 4):
            found, _ = support.closed_slowly(machine, word)
            self.assertEqual(wordmachine.section_words(machine, word), found)

    def test_words_of_60_letters(self):
        self.assertEqual(wordmachine.section_words(FIRST, "aA" * 30), [""])
        self.assertEqual(wordmachine.section_words(FIRST, "b" * 60), ["b" * 60])
        for machine, word in ((FIRST, "a" * 60), (FIRST, "ab" * 30), (FOUR, "ad" * 30), (FOUR, "abcdabdb" * 7)):
            found, _ = support.closed_slowly(machine, word)
            self.assertEqual(wordmachine.section_words(machine, word), found)

    def test_exactly_1000_words(self):
        for machine, word in (AT_LIMIT, AT_LIMIT_FEW):
            found = wordmachine.section_words(machine, word)
            self.assertEqual(len(found), 1000)
            self.assertEqual(len(set(found)), 1000)
        self.assertEqual(wordmachine.section_count(*AT_LIMIT), 1000)
        self.assertEqual(wordmachine.section_count(*AT_LIMIT_FEW), 23)
        machine, word = AT_LIMIT_FEW
        self.assertIs(wordmachine.are_same(machine, word, word), True)
        self.assertEqual(wordmachine.row_of(machine, word, ""), 0)
        self.assertEqual(wordmachine.first_word(machine, word, 0), support.cut_slowly(word))

    def test_more_than_1000_words(self):
        for machine, word in (OVER_LIMIT, OVER_LIMIT_FEW):
            self.assertEqual(len(support.closed_slowly(machine, word)[0]), 1001)
            for function in (wordmachine.section_words, wordmachine.word_machine, wordmachine.section_count,
                             wordmachine.depth):
                self.assertRaises(TooLarge, function, machine, word)
            self.assertRaises(TooLarge, wordmachine.are_same, machine, "a", word)
            self.assertRaises(TooLarge, wordmachine.are_same, machine, word, "a")
            self.assertRaises(TooLarge, wordmachine.row_of, machine, word, "01")
            self.assertRaises(TooLarge, wordmachine.first_word, machine, word, 0)

    def test_no_more_than_the_bound(self):
        """[64]."""
        for machine, word in some_pairs(61, 6, 3):
            m, n = len(machine[1]), len(word)
            self.assertLessEqual(len(wordmachine.section_words(machine, word)), sum([m ** i for i in range(n + 1)]))

    def test_results_are_not_shared(self):
        found = wordmachine.section_words(FIRST, "aa")
        found.append("x")
        self.assertEqual(wordmachine.section_words(FIRST, "aa"), ["aa", "ba", "ab", "bb"])


class WordMachines(unittest.TestCase):
    """[61], [62], [63], [64] and [65]."""

    def test_the_example(self):
        self.assertEqual(wordmachine.word_machine(EXAMPLE, "a"), (2, (((1, 1), (0, 0)), ((0, 1), (1, 1)))))
        self.assertEqual(wordmachine.word_machine(EXAMPLE, "aa"),
                         (2, (((0, 1), (1, 1)), ((1, 2), (0, 1)), ((0, 2), (1, 2)))))

    def test_the_empty_word(self):
        for machine in support.MACHINES:
            k = machine[0]
            for word in ("", "aA"):
                self.assertEqual(wordmachine.word_machine(machine, word), (k, (tuple([(x, 0) for x in range(k)]),)))
                self.assertEqual(wordmachine.section_count(machine, word), 1)

    def test_against_comparing_the_section_words(self):
        counts = {}
        for machine, word in some_pairs(62, 8, 4):
            expected = machine_slowly(machine, word)
            self.assertEqual(wordmachine.word_machine(machine, word), expected)
            self.assertEqual(wordmachine.section_count(machine, word), len(expected[1]))
            counts[len(expected[1])] = True
        self.assertGreater(len(counts), 15)

    def test_it_is_its_own_least_machine(self):
        for machine, word in some_pairs(63, 8, 4):
            made = wordmachine.word_machine(machine, word)
            if len(made[1]) <= 200:
                self.assertEqual(least.least(made, 0), made)

    def test_a_resting_row_exactly_if_a_section_is_at_rest(self):
        answers = {}
        for machine, word in some_pairs(64, 8, 3):
            rows = wordmachine.word_machine(machine, word)[1]
            resting = [row for number, row in enumerate(rows) if row == tuple([(x, number) for x in range(len(row))])]
            parts = [part for part in wordmachine.section_words(machine, word) if closed.is_at_rest(machine, part)]
            self.assertEqual(len(resting), 1 if parts else 0)
            answers[bool(parts)] = True
        self.assertEqual(len(answers), 2)

    def test_single_letters(self):
        for machine in support.MACHINES + tuple(support.some_machines(65, 20, 8)):
            for state, letter in enumerate("abcdefgh"[:len(machine[1])]):
                made = wordmachine.word_machine(machine, letter)
                self.assertLessEqual(len(made[1]), len(machine[1]))
                self.assertEqual(made, least.least(machine, state))
                undone = wordmachine.word_machine(machine, letter.upper())
                self.assertEqual(undone, least.least(machines.undoing(machine), state))

    def test_undone_words_have_as_many_rows(self):
        for machine, word in some_pairs(66, 6, 4):
            undone = support.undone_slowly(word)
            self.assertEqual(wordmachine.section_count(machine, word), wordmachine.section_count(machine, undone))
            k, rows = wordmachine.word_machine(machine, word)
            taken = wordmachine.word_machine(machine, undone)
            for string in support.strings_of_length(k, 4):
                self.assertEqual(wordmachine.acted(taken, wordmachine.acted((k, rows), string)), string)


class Same(unittest.TestCase):
    """[62] and [41]."""

    def test_against_equal_words(self):
        rng = random.Random(67)
        answers = {True: 0, False: 0}
        for machine, word in some_pairs(67, 8, 4):
            other = rng.choice((support.some_word(rng, machine, 3), word[::-1], word + "aA", "a" + word + "A"))
            same = wordmachine.are_same(machine, word, other)
            self.assertIs(same, closed.are_equal(machine, word, other))
            answers[same] += 1
        self.assertGreater(min(answers.values()), 20)

    def test_words_of_two_machines(self):
        rng = random.Random(68)
        for machine, word in some_pairs(68, 3, 4):
            q = tuple(rng.sample(range(len(machine[1])), len(machine[1])))
            renamed = machines.with_states(machine, q)
            letters = {"abcdefgh"[s]: "abcdefgh"[t] for s, t in enumerate(q)}
            letters.update({"ABCDEFGH"[s]: "ABCDEFGH"[t] for s, t in enumerate(q)})
            other = "".join([letters[letter] for letter in word])
            self.assertEqual(wordmachine.word_machine(machine, word), wordmachine.word_machine(renamed, other))
        self.assertEqual(wordmachine.word_machine(FIRST, "b"), wordmachine.word_machine(FOUR, "aa"))
        self.assertNotEqual(wordmachine.word_machine(FIRST, "a"), wordmachine.word_machine(FOUR, "a"))


class Acting(unittest.TestCase):
    """[62]."""

    def test_against_images(self):
        rng = random.Random(69)
        for machine, word in some_pairs(69, 5, 4):
            made = wordmachine.word_machine(machine, word)
            for _ in range(5):
                string = support.some_string(rng, machine[0], 60)
                self.assertEqual(wordmachine.acted(made, string), sections.image_of(machine, word, string))
            self.assertEqual(wordmachine.acted(made, ""), "")

    def test_more_than_200_rows(self):
        made = wordmachine.word_machine(FREE, "abcab")
        self.assertGreater(len(made[1]), 200)
        self.assertIs(machines.is_wide(made), False)
        rng = random.Random(70)
        for _ in range(30):
            string = support.some_string(rng, 2, 60)
            self.assertEqual(wordmachine.acted(made, string), support.image_by_word(FREE, "abcab", string))
        shifted = (3, tuple([tuple([((x + 1) % 3, (row + 1) % 300) for x in range(3)]) for row in range(300)]))
        self.assertEqual(wordmachine.acted(shifted, "012" * 20), "120" * 20)

    def test_no_strings(self):
        for string in ("2", "x", " ", "012", "0" * 61, "01" * 31, "\u0661"):
            self.assertRaises(NotString, wordmachine.acted, FIRST, string)
        self.assertEqual(wordmachine.acted(FIRST, "1" * 60), "0" * 60)
        self.assertRaises(NotString, wordmachine.acted, support.THREE_DIGITS, "3")


class Rows(unittest.TestCase):
    """[61] and [66]."""

    def test_row_of(self):
        self.assertEqual(wordmachine.row_of(EXAMPLE, "aa", ""), 0)
        self.assertEqual(wordmachine.row_of(EXAMPLE, "aa", "0"), 1)
        self.assertEqual(wordmachine.row_of(EXAMPLE, "aa", "10"), 2)
        self.assertEqual(wordmachine.row_of(EXAMPLE, "aa", "1" * 60), 1)
        rng = random.Random(71)
        for machine, word in some_pairs(71, 6, 3):
            firsts, numbers = sections_slowly(machine, word)
            for _ in range(4):
                string = support.some_string(rng, machine[0], 8)
                section = support.cut_slowly(support.section_slowly(machine, word, string))
                self.assertEqual(wordmachine.row_of(machine, word, string), numbers[section])

    def test_first_word(self):
        for machine, word in some_pairs(72, 6, 3):
            firsts, _ = sections_slowly(machine, word)
            for row, first in enumerate(firsts):
                self.assertEqual(wordmachine.first_word(machine, word, row), first)
            for row in (-1, len(firsts), len(firsts) + 1, support.GREAT, -support.GREAT):
                self.assertRaises(BadNumber, wordmachine.first_word, machine, word, row)

    def test_no_such_string(self):
        for string in ("2", "x", "0" * 61):
            self.assertRaises(NotString, wordmachine.row_of, FIRST, "a", string)
            for word in NO_WORDS:
                self.assertRaises(NotWord, wordmachine.row_of, FIRST, word, string)
        # The string is looked at before the section words are counted.
        self.assertRaises(NotString, wordmachine.row_of, *OVER_LIMIT, "3")


class Depths(unittest.TestCase):
    """[66]."""

    def test_known_words(self):
        for word in ("", "b", "aA", "bB", "abA"):
            self.assertEqual(wordmachine.depth(FIRST, word), 0)
        for word in ("a", "A", "aa", "a" * 60):
            self.assertIsNone(wordmachine.depth(FIRST, word))
        for word, expected in (("a", 1), ("aa", 0), ("b", None), ("bcd", 0), ("adad", None), ("abAb", None)):
            self.assertEqual(wordmachine.depth(FOUR, word), expected)

    def test_short_words(self):
        rng = random.Random(73)
        depths = {}
        for _ in range(60):
            k = rng.choice((2, 3))
            machine = short_machine(rng, k, rng.randint(1, 5))
            word = support.some_word(rng, machine, 4)
            depth = wordmachine.depth(machine, word)
            self.assertEqual(depth, depth_slowly(machine, word, 4))
            depths[depth] = True
        self.assertGreaterEqual(len(depths), 4)
        self.assertNotIn(None, depths)

    def test_other_words(self):
        answers = {}
        for machine, word in some_pairs(74, 6, 3):
            depth = wordmachine.depth(machine, word)
            expected = depth_slowly(machine, word, 4)
            if depth is None or depth <= 4:
                self.assertEqual(depth, expected)
            else:
                self.assertIsNone(expected)
            answers[depth] = True
        self.assertIn(None, answers)


class Errors(unittest.TestCase):
    def test_functions_of_one_word(self):
        for function, values in ((wordmachine.section_words, ()), (wordmachine.word_machine, ()),
                                 (wordmachine.section_count, ()), (wordmachine.depth, ()),
                                 (wordmachine.row_of, ("x",)), (wordmachine.first_word, (-1,))):
            for machine in tuple(WRONG.values()) + (NINE,):
                self.assertRaises(NotMachine, function, machine, "", *values)
                self.assertRaises(NotMachine, function, machine, "z", *values)
            for word in NO_WORDS:
                self.assertRaises(NotWord, function, FIRST, word, *values)

    def test_are_same(self):
        for machine in tuple(WRONG.values()) + (NINE,):
            self.assertRaises(NotMachine, wordmachine.are_same, machine, "", "z")
        machine, large = OVER_LIMIT
        for word in ("z", "d", "a" * 61):
            self.assertRaises(NotWord, wordmachine.are_same, machine, word, "")
            self.assertRaises(NotWord, wordmachine.are_same, machine, large, word)
            self.assertRaises(NotWord, wordmachine.are_same, machine, word, large)

    def test_arguments_are_left_alone(self):
        rows = [[(1, 1), (0, 0)], [(0, 1), (1, 1)]]
        kept = [list(row) for row in rows]
        wordmachine.acted((2, rows), "0110")
        self.assertEqual(rows, kept)


if __name__ == "__main__":
    unittest.main()
