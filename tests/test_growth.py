import random
import unittest

import support
from leafturner import apart, closed, growth
from leafturner.errors import BadNumber, NotMachine, NotWord, TooLarge
from test_machines import WRONG
from test_words import NINE, NO_WORDS

FIRST = support.FIRST
FOUR = support.FOUR_STATES
FREE = support.FREE
GREAT = support.GREAT

# A machine all of whose words are powers of a, which exchanges 0 and 1.
TWO_TURNINGS = (2, (((1, 1), (0, 1)), ((0, 1), (1, 1))))

# A machine and a length whose ball has exactly 600 words, and others with 601.
BALL_600 = ((2, (((0, 2), (1, 2)), ((1, 0), (0, 0)), ((0, 1), (1, 2)))), 8)
BALL_601 = ((3, (((1, 1), (2, 0), (0, 1)), ((2, 1), (1, 0), (0, 2)), ((0, 2), (1, 0), (2, 2)))), 4)
LONG_BALL_601 = ((2, (((0, 2), (1, 2)), ((0, 0), (1, 0)), ((1, 1), (0, 2)))), 12)


def ball_slowly(machine, length):
    """All words in their order, each compared with the least words that come before it."""
    found = []
    for word in support.words_up_to(machine, length):
        if not any([closed.are_equal(machine, word, other) for other in found]):
            found.append(word)
    return found


def some_machines(seed, count):
    return [machine for machine in support.MACHINES if len(machine[1]) <= 3] + support.some_machines(seed, count, 2)


class Balls(unittest.TestCase):
    """[181], [182] and [183]."""

    def test_the_example(self):
        """[187]."""
        self.assertEqual(growth.ball(FIRST, 2), ["", "a", "A", "aa", "AA"])

    def test_against_comparing_words_one_by_one(self):
        sizes = {}
        for machine in some_machines(180, 25):
            for length in range(4 if len(machine[1]) < 3 else 3):
                expected = ball_slowly(machine, length)
                self.assertEqual(growth.ball(machine, length), expected)
                counts = [sum([len(word) == n for word in expected]) for n in range(length + 1)]
                self.assertEqual(growth.growth(machine, length), counts)
                self.assertIs(growth.is_finite(machine, length), counts[-1] == 0)
                sizes[tuple(counts)] = True
        self.assertGreater(len(sizes), 15)

    def test_known_growth(self):
        self.assertEqual(growth.growth(FIRST, 12), [1] + [2] * 12)
        self.assertEqual(growth.growth(TWO_TURNINGS, 5), [1, 1, 0, 0, 0, 0])
        self.assertEqual(growth.ball(TWO_TURNINGS, 12), ["", "a"])
        self.assertEqual(growth.growth(FOUR, 3), [1, 4, 6, 12])
        self.assertEqual(growth.growth(FREE, 3), [1, 6, 30, 150])
        self.assertEqual(growth.growth((2, (((0, 0), (1, 0)),)), 12), [1] + [0] * 12)

    def test_the_length_0(self):
        for machine in support.MACHINES:
            self.assertEqual(growth.ball(machine, 0), [""])
            self.assertEqual(growth.growth(machine, 0), [1])
            self.assertIs(growth.is_finite(machine, 0), False)

    def test_finite_machines(self):
        self.assertEqual([growth.is_finite(TWO_TURNINGS, n) for n in range(13)], [False, False] + [True] * 11)
        self.assertEqual([growth.is_finite(FIRST, n) for n in range(13)], [False] * 13)

    def test_rings(self):
        """A ring n + m has at most as many words as the ring n times the ring m."""
        for machine in some_machines(181, 10):
            found = []
            for length in range(13):
                try:
                    found = growth.growth(machine, length)
                except TooLarge:
                    break
            for n in range(len(found)):
                for m in range(len(found) - n):
                    self.assertLessEqual(found[n + m], found[n] * found[m])

    def test_the_table_of_least_words(self):
        for machine in some_machines(182, 10):
            try:
                expected = apart.table(machine, 4)
            except TooLarge:
                continue
            self.assertEqual(growth.ball(machine, 4), expected)

    def test_600_words(self):
        self.assertEqual(len(growth.ball(*BALL_600)), 600)
        self.assertEqual(sum(growth.growth(*BALL_600)), 600)
        self.assertEqual(len(growth.table(*BALL_600)), 600)
        self.assertIs(growth.is_finite(*BALL_600), False)
        for function in (growth.ball, growth.growth, growth.table, growth.is_finite):
            self.assertRaises(TooLarge, function, *BALL_601)
            self.assertRaises(TooLarge, function, *LONG_BALL_601)
            self.assertRaises(TooLarge, function, FREE, 12)
        for machine, length in (BALL_601, LONG_BALL_601):
            self.assertLess(len(growth.ball(machine, length - 1)), 600)
        self.assertEqual(len(growth.ball(FREE, 3)), 187)
        self.assertRaises(TooLarge, growth.ball, FREE, 4)

    def test_lengths(self):
        for function in (growth.ball, growth.growth, growth.table, growth.is_finite):
            for length in (-1, 13, 1000, GREAT, -GREAT):
                self.assertRaises(BadNumber, function, FIRST, length)
                self.assertRaises(BadNumber, function, FREE, length)
            for machine in tuple(WRONG.values()) + (NINE,):
                self.assertRaises(NotMachine, function, machine, -1)

    def test_results_are_not_shared(self):
        for function in (growth.ball, growth.growth):
            found = function(FIRST, 1)
            found.clear()
            self.assertNotEqual(function(FIRST, 1), [])


class LeastWords(unittest.TestCase):
    """[181] and [186]."""

    def test_known_words(self):
        self.assertEqual(growth.least(FIRST, "abbab"), "aa")
        self.assertEqual(growth.least(FIRST, "b"), "")
        self.assertEqual(growth.least(FOUR, "cb"), "d")
        self.assertEqual(growth.least(FOUR, "D"), "d")
        self.assertEqual(growth.least(FOUR, "adadadad"), "")

    def test_words_of_any_length(self):
        self.assertEqual(growth.least(FIRST, "a" * 60), "a" * 60)
        self.assertEqual(growth.least(FIRST, "aB" * 30), "a" * 30)
        self.assertEqual(growth.least(TWO_TURNINGS, "a" * 59), "a")
        self.assertEqual(growth.least(TWO_TURNINGS, "ab" * 30), "")
        self.assertEqual(growth.least(FREE, "aA" * 29 + "bc"), "bc")
        self.assertEqual(growth.least(FREE, ""), "")

    def test_against_all_words_before(self):
        rng = random.Random(186)
        for machine in some_machines(183, 12):
            for _ in range(4):
                word = support.some_word(rng, machine, 3)
                equal = [other for other in support.words_up_to(machine, 3)
                         if closed.are_equal(machine, word, other)]
                self.assertEqual(growth.least(machine, word), equal[0])

    def test_equal_exactly_if_the_same_least_word(self):
        rng = random.Random(187)
        answers = {True: 0, False: 0}
        for machine in some_machines(184, 12):
            for _ in range(6):
                one, other = support.some_word(rng, machine, 3), support.some_word(rng, machine, 3)
                same = growth.least(machine, one) == growth.least(machine, other)
                self.assertIs(same, closed.are_equal(machine, one, other))
                answers[same] += 1
        self.assertGreater(min(answers.values()), 10)

    def test_too_large(self):
        machine, length = BALL_600
        word = "abcABC" + "ab"
        self.assertEqual(len(support.cut_slowly(word)), length)
        equal = [other for other in growth.ball(machine, length) if closed.are_equal(machine, word, other)]
        self.assertEqual([growth.least(machine, word)], equal)
        # The ball with as many letters as the cut word is too large, even if a short word is equal to it.
        machine, length = BALL_601
        self.assertRaises(TooLarge, growth.least, machine, "a" * length)
        self.assertRaises(TooLarge, growth.least, FREE, "abcc")
        self.assertEqual(growth.least(FREE, "abcC"), "ab")

    def test_no_words(self):
        for word in NO_WORDS:
            self.assertRaises(NotWord, growth.least, FIRST, word)
        self.assertRaises(NotWord, growth.least, FREE, "a" * 61)
        for machine in tuple(WRONG.values()) + (NINE,):
            self.assertRaises(NotMachine, growth.least, machine, "z")


class WordTables(unittest.TestCase):
    """[186]."""

    def test_known_tables(self):
        self.assertEqual(growth.table(FIRST, 1), [[1, 2, 0, 0], [-1, 0, 1, 1], [0, -1, 2, 2]])
        self.assertEqual(growth.table(FIRST, 0), [[-1, -1, 0, 0]])
        self.assertEqual(growth.table(TWO_TURNINGS, 5), [[1, 1, 0, 0], [0, 0, 1, 1]])

    def test_against_least_words(self):
        missing = 0
        for machine in some_machines(185, 15):
            for length in (0, 1, 2):
                ball = growth.ball(machine, length)
                expected = []
                for word in ball:
                    row = []
                    for letter in support.letters_of(machine):
                        equal = [n for n, other in enumerate(ball)
                                 if closed.are_equal(machine, word + letter, other)]
                        row.append(equal[0] if equal else -1)
                        missing += not equal
                    expected.append(row)
                self.assertEqual(growth.table(machine, length), expected)
        self.assertGreater(missing, 50)

    def test_rows_are_not_shared(self):
        found = growth.table(FIRST, 1)
        found[0].append(7)
        self.assertEqual([len(row) for row in found], [5, 4, 4])
        self.assertEqual(growth.table(FIRST, 1), [[1, 2, 0, 0], [-1, 0, 1, 1], [0, -1, 2, 2]])


if __name__ == "__main__":
    unittest.main()
