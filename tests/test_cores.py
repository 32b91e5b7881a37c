import itertools
import random
import unittest

import support
from leafturner import closed, cores
from leafturner.errors import BadNumber, NoAnswer, NotMachine, NotWord, TooLarge
from test_machines import WRONG
from test_orders import directed_machine
from test_words import NINE, NO_WORDS

FIRST = support.FIRST
FOUR = support.FOUR_STATES
GREAT = support.GREAT

CORE = ["", "a", "A"]
CORE_OF_FOUR = ["", "a", "b", "c", "d"]


def small_directed_machines(seed, count):
    """Directed machines with 2 or 3 digits and at most three states besides one that rests."""
    rng = random.Random(seed)
    return [directed_machine(rng, rng.choice((2, 3)), rng.randint(1, 4)) for _ in range(count)]


class Known:
    """Compares words, each pair once."""

    def __init__(self, machine, words):
        self.machine = machine
        self.words = words
        self.told = {}

    def has(self, word):
        if word not in self.told:
            self.told[word] = any([closed.are_equal(self.machine, word, other) for other in self.words])
        return self.told[word]

    def all_at(self, word, length):
        strings = support.strings_of_length(self.machine[0], length)
        return all([self.has(support.cut_slowly(support.section_slowly(self.machine, word, string)))
                    for string in strings])

    def depth(self, word, most):
        for length in range(most + 1):
            if self.all_at(word, length):
                return length
        return None


def is_core_list_slowly(machine, words):
    known = Known(machine, words)
    for one, other in itertools.combinations(words, 2):
        if closed.are_equal(machine, one, other):
            return False
    needed = [""] + list(support.letters_of(machine))
    needed += [support.section_slowly(machine, word, str(x)) for word in words for x in range(machine[0])]
    return all([known.has(word) for word in needed])


def is_returning(machine, word):
    """Whether a word is equal to one of its sections at strings that are not empty."""
    sections = [word]
    for part in sections:
        for x in range(machine[0]):
            section = support.cut_slowly(support.section_slowly(machine, part, str(x)))
            if closed.are_equal(machine, section, word):
                return True
            if section not in sections:
                sections.append(section)
    return False


def is_directed_slowly(machine):
    k, rows = machine
    for rest, row in enumerate(rows):
        if row == tuple([(x, rest) for x in range(k)]):
            others = [[after for _, after in other if after != rest]
                      for state, other in enumerate(rows) if state != rest]
            if all([len(elsewhere) <= 1 for elsewhere in others]):
                return True
    return False


class Directed(unittest.TestCase):
    """[144]."""

    def test_known_machines(self):
        for machine, expected in ((FIRST, True), (FOUR, False), (support.FREE, False), (support.LAMPS, False),
                                  (support.THREE_DIGITS, False), (support.FOUR_DIGITS, False),
                                  ((2, (((0, 0), (1, 0)),)), True), ((2, (((1, 0), (0, 0)),)), False),
                                  ((2, (((0, 0), (1, 0)), ((1, 0), (0, 0)))), True),
                                  ((2, (((0, 0), (1, 0)), ((1, 0), (0, 1)), ((0, 1), (1, 0)))), True),
                                  ((2, (((0, 0), (1, 0)), ((1, 1), (0, 1)))), False),
                                  ((2, (((0, 0), (1, 0)), ((0, 1), (1, 1)))), False),
                                  ((2, (((0, 1), (1, 1)), ((0, 1), (1, 1)))), True),
                                  ((2, (((0, 1), (1, 1)), ((0, 0), (1, 0)))), False),
                                  ((3, (((0, 0), (1, 0), (2, 0)), ((1, 0), (0, 1), (2, 1)))), False),
                                  ((3, (((0, 0), (1, 0), (2, 0)), ((1, 0), (0, 0), (2, 1)))), True)):
            self.assertIs(cores.is_directed(machine), expected, machine)

    def test_many_machines(self):
        rng = random.Random(144)
        answers = {True: 0, False: 0}
        for machine in small_directed_machines(144, 60) + support.some_machines(144, 40, 3):
            changed = [list(row) for row in machine[1]]
            state, x = rng.randrange(len(changed)), rng.randrange(machine[0])
            changed[state][x] = (changed[state][x][0], rng.randrange(len(changed)))
            for other in (machine, (machine[0], tuple([tuple(row) for row in changed]))):
                expected = is_directed_slowly(other)
                self.assertIs(cores.is_directed(other), expected)
                answers[expected] += 1
        self.assertGreater(min(answers.values()), 30)


class CoreLists(unittest.TestCase):
    """[140]."""

    def test_known_lists(self):
        """[147] among them."""
        for words in (CORE, ["a", "", "A"], ["b", "ab", "A"], ["", "a", "A", "aa"], ["", "a", "A", "aa", "AA"]):
            self.assertIs(cores.is_core_list(FIRST, words), True, words)
        for words in ([], [""], ["", "a"], ["a", "A"], ["", "a", "A", "b"], ["", "a", "A", "a"], ["", "b", "a", "A"],
                      ["", "a", "A", "ab"], ["", "a", "A", "aaaa"], ["", "a", "A", "aaa"]):
            self.assertIs(cores.is_core_list(FIRST, words), False, words)
        self.assertIs(cores.is_core_list(FOUR, CORE_OF_FOUR), True)
        self.assertIs(cores.is_core_list(FOUR, ["e", "A", "cd", "bd", "D"]), True)
        self.assertIs(cores.is_core_list(FOUR, ["", "a", "b", "c", "d", "bc"]), False)
        self.assertIs(cores.is_core_list(FOUR, ["", "a", "b", "c"]), False)
        # The letters of a machine are closed under sections, whether there is a core or not.
        self.assertIs(cores.is_core_list(support.FREE, ["", "a", "A", "b", "B", "c", "C"]), True)
        self.assertIs(cores.is_core_list(support.FREE, ["", "a", "A", "b", "B", "c", "C", "ab"]), False)

    def test_one_thing_changed(self):
        answers = {True: 0, False: 0}
        rng = random.Random(140)
        for machine in support.MACHINES + tuple(small_directed_machines(140, 25)):
            words = cores.full_core(machine)
            if words is None:
                words = [""] + list(support.letters_of(machine))
            for n in range(5):
                changed = list(words)
                if n == 1:
                    changed.pop(rng.randrange(len(changed)))
                elif n == 2:
                    changed.append(rng.choice(words) + "aA")
                elif n == 3:
                    changed.append(support.some_word(rng, machine, 3))
                elif n == 4:
                    changed.insert(0, support.some_word(rng, machine, 2))
                expected = is_core_list_slowly(machine, changed)
                self.assertIs(cores.is_core_list(machine, changed), expected)
                answers[expected] += 1
        self.assertGreater(min(answers.values()), 20)


class LeastCores(unittest.TestCase):
    """[142], [143] and [144]."""

    def test_the_example(self):
        """[147]."""
        self.assertEqual(cores.least_core(FIRST)[0], "")
        self.assertEqual(len(cores.least_core(FIRST)), 3)
        self.assertIs(cores.is_core_list(FIRST, cores.least_core(FIRST)), True)

    def test_other_machines(self):
        found = cores.least_core(FOUR)
        self.assertEqual(found[0], "")
        self.assertEqual(len(found), 5)
        self.assertIs(cores.is_core_list(FOUR, found), True)
        for machine in (support.FREE, support.LAMPS):
            self.assertIsNone(cores.least_core(machine))
            self.assertIsNone(cores.full_core(machine))
        # Each turn brings more words, without an end.
        for machine in ((3, (((0, 1), (1, 1), (2, 0)), ((1, 1), (0, 0), (2, 1)))),
                        (4, (((0, 1), (1, 0), (2, 1), (3, 1)), ((2, 1), (1, 1), (3, 1), (0, 0))))):
            self.assertIsNone(cores.least_core(machine))
            self.assertIsNone(cores.full_core(machine))
        # All words have the order 2 or are at rest.
        self.assertEqual(len(cores.least_core((2, (((1, 0), (0, 0)),)))), 2)
        self.assertEqual(cores.least_core((2, (((0, 0), (1, 0)),))), [""])
        self.assertEqual(cores.full_core((2, (((0, 0), (1, 0)),))), [""])
        # The words of single letters are short, so they do not return.
        machine = (2, (((1, 1), (0, 1)), ((0, 1), (1, 1))))
        self.assertEqual(cores.least_core(machine), [""])
        self.assertEqual(len(cores.full_core(machine)), 2)

    def test_directed_machines(self):
        sizes = {}
        for machine in small_directed_machines(141, 120):
            found = cores.least_core(machine)
            self.assertEqual(found[0], "")
            self.check_least(machine, found)
            sizes[len(found)] = True
        self.assertGreater(len(sizes), 4)

    def test_machines_that_are_not_directed(self):
        found = 0
        for machine in support.some_machines(142, 60, 3):
            words = cores.least_core(machine)
            if words is not None and len(words) < 30:
                self.check_least(machine, words)
                found += 1
        self.assertGreater(found, 10)

    def check_least(self, machine, words):
        """The words are different, cut, closed under sections, and returning, and products come down to them."""
        known = Known(machine, words)
        for one, other in itertools.combinations(words, 2):
            self.assertFalse(closed.are_equal(machine, one, other))
        for word in words:
            self.assertEqual(support.cut_slowly(word), word)
            self.assertTrue(known.all_at(word, 1))
            self.assertTrue(self.is_reached_again(machine, word, words))
            for letter in support.letters_of(machine):
                self.assertTrue(self.comes_down(known, word + letter))

    def is_reached_again(self, machine, word, words):
        return is_returning(machine, word) or any([self.leads_to(machine, other, word) for other in words
                                                   if is_returning(machine, other)])

    def leads_to(self, machine, start, end):
        found = [start]
        for part in found:
            if closed.are_equal(machine, part, end):
                return True
            for x in range(machine[0]):
                section = support.cut_slowly(support.section_slowly(machine, part, str(x)))
                if section not in found:
                    found.append(section)
        return False

    def comes_down(self, known, word):
        level = [word]
        for _ in range(40):
            level = [part for part in level if not known.has(part)]
            if not level:
                return True
            level = sorted(set([support.cut_slowly(support.section_slowly(known.machine, part, str(x)))
                                for part in level for x in range(known.machine[0])]))
        return False

    def test_full_cores(self):
        """[140] and the bounds of the interface."""
        for machine in small_directed_machines(143, 150) + [FIRST, FOUR]:
            words = cores.full_core(machine)
            self.assertLessEqual(len(words), 60)
            self.assertLessEqual(max([len(word) for word in words]), 20)
            self.assertTrue(all([support.cut_slowly(word) == word for word in words]))
            self.assertIs(cores.is_core_list(machine, words), True)
            table = cores.depths(machine, words)
            self.assertLessEqual(max([max(row) for row in table]), 8)
            self.assertIs(cores.fits(machine, words, table), True)
            for word in cores.least_core(machine):
                self.assertTrue(any([closed.are_equal(machine, word, other) for other in words]))

    def test_results_are_not_shared(self):
        for function in (cores.least_core, cores.full_core):
            found = function(FIRST)
            found.clear()
            self.assertEqual(len(function(FIRST)), 3)


class Depths(unittest.TestCase):
    """[140] and [145]."""

    def test_the_example(self):
        """[147]."""
        self.assertEqual(cores.depths(FIRST, CORE), [[0, 0, 0, 0], [1, 0, 0, 0], [0, 1, 0, 0]])

    def test_against_all_sections(self):
        found = {}
        for machine in small_directed_machines(145, 40) + [FIRST, FOUR]:
            words = cores.full_core(machine)
            known = Known(machine, words)
            expected = [[known.depth(word + letter, 5) for letter in support.letters_of(machine)] for word in words]
            self.assertEqual(cores.depths(machine, words), expected)
            greatest = max([max(row) for row in expected])
            found[greatest] = True
            self.assertEqual(cores.depths(machine, words, most=greatest), expected)
            if greatest > 0:
                self.assertIsNone(cores.depths(machine, words, most=greatest - 1))
        self.assertGreater(len(found), 2)

    def test_lists_that_are_no_core(self):
        # Copies of a have as many letters on the level.
        machine = (2, (((0, 0), (1, 0)), ((1, 1), (0, 2)), ((0, 2), (1, 1))))
        self.assertIsNone(cores.depths(machine, ["", "b", "B", "c", "C"]))
        self.assertIsNone(cores.depths(support.FREE, ["", "a", "A", "b", "B", "c", "C"]))
        self.assertIsNone(cores.depths(support.LAMPS, ["", "a", "A", "b", "B"]))

    def test_no_answer_and_then_the_number(self):
        for words in ([], ["", "a"], ["", "a", "A", "b"], ["", "a", "A", "aaaa"]):
            for most in (8, -1, 9):
                self.assertRaises(NoAnswer, cores.depths, FIRST, words, most=most)
        for most in (-1, 9, 100, GREAT, -GREAT):
            self.assertRaises(BadNumber, cores.depths, FIRST, CORE, most=most)
        self.assertIsNone(cores.depths(FIRST, CORE, most=0))
        self.assertEqual(cores.depths(FIRST, CORE, most=1), cores.depths(FIRST, CORE))
        self.assertEqual(cores.depths((2, (((0, 0), (1, 0)),)), ["a"], most=0), [[0, 0]])

    def test_results_are_not_shared(self):
        found = cores.depths(FIRST, CORE)
        found[0].append(5)
        self.assertEqual([len(row) for row in found], [5, 4, 4])
        self.assertEqual(cores.depths(FIRST, CORE), [[0, 0, 0, 0], [1, 0, 0, 0], [0, 1, 0, 0]])


class Fitting(unittest.TestCase):
    """[145]."""

    def test_tables(self):
        for machine in small_directed_machines(146, 25) + [FIRST, FOUR]:
            words = cores.full_core(machine)
            table = cores.depths(machine, words)
            self.assertIs(cores.fits(machine, words, table), True)
            self.assertIs(cores.fits(machine, words, [[min(8, d + 1) for d in row] for row in table]), True)
            self.assertIs(cores.fits(machine, words, [[8] * len(row) for row in table]), True)
            for i, row in enumerate(table):
                for j, d in enumerate(row):
                    changed = [list(each) for each in table]
                    changed[i][j] = d - 1
                    self.assertIs(cores.fits(machine, words, changed), False)

    def test_other_tables(self):
        table = cores.depths(FIRST, CORE)
        for changed in (table[:2], table + [[0] * 4], [], [[]] * 3, [row[:3] for row in table],
                        [row + [0] for row in table], table[:2] + [[0, 1, 0]], table[:2] + [[0, 1, 0, 0, 0]]):
            self.assertIs(cores.fits(FIRST, CORE, changed), False)
        for number in (-1, 9, 10, -9, GREAT, -GREAT):
            for i, j in ((0, 0), (2, 1), (2, 3)):
                changed = [list(row) for row in table]
                changed[i][j] = number
                self.assertIs(cores.fits(FIRST, CORE, changed), False)
        for words in ([], ["", "a"], ["", "a", "A", "b"], ["", "A", "a"]):
            self.assertIs(cores.fits(FIRST, words, table), False)
        self.assertIs(cores.fits(FIRST, ["", "A", "a"], [table[0], table[2], table[1]]), True)
        self.assertIs(cores.fits(FIRST, [], []), False)
        self.assertEqual(table, [[0, 0, 0, 0], [1, 0, 0, 0], [0, 1, 0, 0]])

    def test_no_core(self):
        machine = (2, (((0, 0), (1, 0)), ((1, 1), (0, 2)), ((0, 2), (1, 1))))
        self.assertIs(cores.fits(machine, ["", "b", "B", "c", "C"], [[8] * 6] * 5), False)


class ComingDown(unittest.TestCase):
    """[141] and [146]."""

    def test_known_words(self):
        for word, expected in (("", 0), ("a", 0), ("b", 0), ("aa", 1), ("aaa", 2), ("aaaa", 2), ("a" * 5, 3),
                               ("a" * 60, 6), ("A" * 60, 6)):
            self.assertEqual(cores.come_down(FIRST, CORE, word), expected)
        self.assertEqual(cores.come_down(FOUR, CORE_OF_FOUR, "bcd"), 0)
        self.assertEqual(cores.come_down(FOUR, CORE_OF_FOUR, "ab"), 1)

    def test_against_all_sections(self):
        rng = random.Random(147)
        found = {}
        for machine in small_directed_machines(147, 40) + [FIRST, FOUR]:
            words = cores.full_core(machine)
            known = Known(machine, words)
            for _ in range(4):
                word = support.some_word(rng, machine, 4) * rng.choice((1, 2, 3))
                length = cores.come_down(machine, words, word)
                self.assertEqual(length, known.depth(word, 6))
                self.assertTrue(known.all_at(word, length + 1))
                found[length] = True
        self.assertGreater(len(found), 3)

    def test_no_more_than_the_depths(self):
        """[146]."""
        rng = random.Random(148)
        for machine in small_directed_machines(148, 40):
            words = cores.full_core(machine)
            greatest = max([max(row) for row in cores.depths(machine, words)])
            for _ in range(4):
                word = support.some_word(rng, machine, 5)
                self.assertLessEqual(cores.come_down(machine, words, word), len(word) * greatest)

    def test_no_such_length(self):
        machine = (2, (((0, 0), (1, 0)), ((1, 1), (0, 2)), ((0, 2), (1, 1))))
        letters = ["", "b", "B", "c", "C"]
        self.assertIs(cores.is_core_list(machine, letters), True)
        self.assertRaises(NoAnswer, cores.come_down, machine, letters, "bb")
        self.assertEqual(cores.come_down(machine, letters, "b"), 0)

    def test_lengths_up_to_12(self):
        machine = (2, (((1, 2), (0, 1)), ((0, 1), (1, 1)), ((0, 0), (1, 1))))
        words = cores.full_core(machine)
        self.assertEqual(cores.come_down(machine, words, "c" * 60), 12)
        known = Known(machine, words)
        level = [support.section_slowly(machine, "c" * 60, string) for string in ("0" * 11, "1" * 11, "01" * 5 + "0")]
        self.assertFalse(all([known.has(support.cut_slowly(part)) for part in level]))
        machine = (2, (((0, 2), (1, 1)), ((0, 1), (1, 1)), ((1, 1), (0, 3)), ((0, 0), (1, 1))))
        words = cores.full_core(machine)
        self.assertRaises(NoAnswer, cores.come_down, machine, words, "ccdCbc" * 10)
        self.assertIn(cores.come_down(machine, words, "ccdCbc" * 3), range(13))

    def test_errors_in_their_order(self):
        for word in NO_WORDS:
            self.assertRaises(NotWord, cores.come_down, FIRST, CORE, word)
            self.assertRaises(NotWord, cores.come_down, FIRST, ["", "a"], word)
            self.assertRaises(NotWord, cores.come_down, FIRST, [word], "a")
            self.assertRaises(TooLarge, cores.come_down, FIRST, ["a"] * 61, word)
        for words in ([], ["", "a"], ["", "a", "A", "b"]):
            self.assertRaises(NoAnswer, cores.come_down, FIRST, words, "a")


class Errors(unittest.TestCase):
    def test_no_machine(self):
        calls = ((cores.is_directed, ()), (cores.least_core, ()), (cores.full_core, ()),
                 (cores.is_core_list, (["z"],)), (cores.depths, (["z"],)), (cores.fits, (["z"], [])),
                 (cores.come_down, (["z"], "z")))
        for function, values in calls:
            for machine in tuple(WRONG.values()) + (NINE,):
                self.assertRaises(NotMachine, function, machine, *values)

    def test_words_and_their_number(self):
        calls = ((cores.is_core_list, ()), (cores.depths, ()), (cores.fits, ([],)), (cores.come_down, ("a",)))
        for function, values in calls:
            for word in NO_WORDS:
                self.assertRaises(NotWord, function, FIRST, ["", word], *values)
                self.assertRaises(NotWord, function, FIRST, ["a"] * 61 + [word], *values)
            self.assertRaises(TooLarge, function, FIRST, ["a"] * 61, *values)
            self.assertRaises(TooLarge, function, FIRST, [""] * 100, *values)
        self.assertRaises(TooLarge, cores.depths, FIRST, ["a"] * 61, most=-1)
        self.assertIs(cores.is_core_list(FIRST, ["a"] * 60), False)

    def test_60_words(self):
        words = ["", "a", "A"] + ["a" * n for n in range(2, 31)] + ["A" * n for n in range(2, 30)]
        self.assertEqual(len(words), 60)
        self.assertIs(cores.is_core_list(FIRST, words), True)
        self.assertIs(cores.is_core_list(FIRST, words[:-1] + ["a" * 31]), True)
        self.assertIs(cores.is_core_list(FIRST, words[:-1] + ["a" * 59]), True)
        self.assertIs(cores.is_core_list(FIRST, words[:10] + words[11:] + ["a" * 59]), False)
        self.assertIs(cores.is_core_list(FIRST, ["", "a", "A", "a" * 60, "A" * 60]), False)

    def test_arguments_are_left_alone(self):
        words, table = list(CORE), [[0, 0, 0, 0], [1, 0, 0, 0], [0, 1, 0, 0]]
        cores.is_core_list(FIRST, words)
        cores.fits(FIRST, words, table)
        cores.come_down(FIRST, words, "aa")
        self.assertEqual((words, table), (CORE, [[0, 0, 0, 0], [1, 0, 0, 0], [0, 1, 0, 0]]))


if __name__ == "__main__":
    unittest.main()
