import itertools
import random
import unittest

import support
from leafturner import closed, least, machines, sections, words
from leafturner.errors import NotMachine, NotWord, TooLarge
from test_machines import WRONG
from test_words import NINE, NO_WORDS

FIRST = support.FIRST
FOUR = support.FOUR_STATES


def machine_of(machine, word):
    """The least machine of a word, made letter by letter with states that are behind one another."""
    k = machine[0]
    undoing = machines.undoing(machine)
    made = (k, (tuple([(x, 0) for x in range(k)]),))
    for letter in word:
        other = machine if letter.islower() else undoing
        made = least.least(machines.behind(made, 0, other, "abcdefgh".index(letter.lower())), 0)
    return made


def rests_slowly(machine, word):
    return machine_of(machine, word) == machine_of(machine, "")


def short_words(seed, count, letters):
    rng = random.Random(seed)
    chosen = support.MACHINES + tuple(support.some_machines(seed, 10, 3))
    return [(machine, support.some_word(rng, machine, letters)) for machine in chosen for _ in range(count)]


def resting_words(seed):
    """Words at rest with some sections: words that lead there and back around one at rest, and still machines."""
    rng = random.Random(seed)
    result = []
    for _ in range(20):
        u = support.some_word(rng, FOUR, 3)
        result.append((FOUR, u + rng.choice(("bcd", "adadadad", "cc", "dcb")) + support.undone_slowly(u)))
        maps = [[rng.randrange(6) for _ in range(6)] for _ in range(rng.choice((2, 3, 4)))]
        machine = support.identity_machine(maps)
        result.append((machine, support.some_word(rng, machine, 3)))
    return result


class ClosedLists(unittest.TestCase):
    """[40], [41] and [46]."""

    def test_the_example(self):
        self.assertEqual(closed.closed_list(FIRST, "b"), ["b"])

    def test_the_empty_word(self):
        for machine in support.MACHINES:
            self.assertEqual(closed.closed_list(machine, ""), [""])
            self.assertEqual(closed.closed_list(machine, "aBbA"), [""])

    def test_the_cut_word_comes_first(self):
        self.assertEqual(closed.closed_list(FIRST, "aAb"), ["b"])
        self.assertEqual(closed.closed_list(FIRST, "abA"), ["abA", "b"])

    def test_the_order(self):
        self.assertEqual(closed.closed_list(FOUR, "aa"), ["aa", "ee"])
        # bcd keeps each digit; its sections are aae and cdb, and so on.
        self.assertEqual(closed.closed_list(FOUR, "bcd"), ["bcd", "aae", "cdb", "eee", "aea", "dbc", "eaa"])
        identity = support.identity_machine(((2, 2, 3, 3), (1, 0, 0, 3)))
        self.assertEqual(closed.closed_list(identity, "ab"), ["ab", "cc", "ba", "dd", "aa", "bb"])
        self.assertEqual(closed.closed_list(identity, "d"), ["d"])

    def test_the_order_of_all_sections(self):
        longer = 0
        for machine, word in short_words(40, 6, 5) + resting_words(40):
            found, rests = support.closed_slowly(machine, word)
            self.assertEqual(closed.closed_list(machine, word), found if rests else None)
            longer += rests and len(found) > 4
        self.assertGreater(longer, 20)

    def test_none_for_words_that_do_not_rest(self):
        for word in ("a", "A", "ab", "aab", "a" * 60, "A" * 60):
            self.assertIsNone(closed.closed_list(FIRST, word))
        # The digit that is changed may stand far behind.
        self.assertIsNone(closed.closed_list(FIRST, "a" * 32))
        self.assertIsNone(closed.closed_list(support.cycle(2, 8), "b"))

    def test_closed_lists_are_closed(self):
        for machine, word in resting_words(41):
            found = closed.closed_list(machine, word)
            self.assertIs(closed.is_closed(machine, found), True)
            self.assertEqual(found[0], support.cut_slowly(word))

    def test_it_is_the_least_closed_list(self):
        for word in ("bcd", "aa", "adadadad"):
            found = closed.closed_list(FOUR, word)
            for chosen in itertools.product((True, False), repeat=len(found) - 1):
                part = found[:1] + [word for word, taken in zip(found[1:], chosen) if taken]
                self.assertIs(closed.is_closed(FOUR, part), part == found)

    def test_results_are_not_shared(self):
        found = closed.closed_list(FOUR, "bcd")
        found.append("x")
        self.assertNotIn("x", closed.closed_list(FOUR, "bcd"))


class AtRest(unittest.TestCase):
    """[40], [41] and [44]."""

    def test_known_words(self):
        for word in ("", "b", "B", "aA", "bbbb", "abA", "aBBA"):
            self.assertIs(closed.is_at_rest(FIRST, word), True)
        for word in ("a", "A", "ab", "aa", "aaB", "a" * 60):
            self.assertIs(closed.is_at_rest(FIRST, word), False)
        for word in ("aa", "bb", "cc", "dd", "bcd", "dcb", "adadadad", "e", "E", "aA" * 30, "ad" * 28):
            self.assertIs(closed.is_at_rest(FOUR, word), True)
        for word in ("a", "ab", "adad", "acacacac", "bcb", "ad" * 30):
            self.assertIs(closed.is_at_rest(FOUR, word), False)
        for word in ("a", "b", "c", "aB", "abAB", "acbACB", "abc" * 20):
            self.assertIs(closed.is_at_rest(support.FREE, word), False)

    def test_against_machines_behind_one_another(self):
        rests = 0
        for machine, word in short_words(42, 12, 5):
            expected = rests_slowly(machine, word)
            rests += expected
            self.assertIs(closed.is_at_rest(machine, word), expected)
            self.assertEqual(closed.closed_list(machine, word) is not None, expected)
        self.assertGreater(rests, 40)

    def test_all_short_words(self):
        for machine in (FIRST, FOUR, support.LAMPS, support.THREE_DIGITS):
            for word in support.words_up_to(machine, 2):
                self.assertIs(closed.is_at_rest(machine, word), rests_slowly(machine, word))

    def test_rest_goes_over_to_sections_and_back(self):
        for machine, word in short_words(43, 10, 5):
            outs, parts = sections.row_of_word(machine, word)
            keeps = outs == tuple(range(machine[0]))
            rests = keeps and all([closed.is_at_rest(machine, part) for part in parts])
            self.assertIs(closed.is_at_rest(machine, word), rests)

    def test_words_at_rest_keep_all_strings(self):
        rng = random.Random(44)
        for machine, word in short_words(44, 10, 5):
            if closed.is_at_rest(machine, word):
                for _ in range(5):
                    string = support.some_string(rng, machine[0], 60)
                    self.assertEqual(support.image_by_word(machine, word, string), string)


class Equal(unittest.TestCase):
    """[40], [41], [44] and [46]."""

    def test_the_examples(self):
        self.assertIs(closed.are_equal(FIRST, "ab", "a"), True)
        self.assertIs(closed.are_equal(FIRST, "a", "A"), False)

    def test_pairs(self):
        equal = (("", ""), ("", "b"), ("b", "B"), ("ab", "ba"), ("aab", "abaB"), ("A", "BAb"), ("aAb", ""))
        for one, other in equal:
            self.assertIs(closed.are_equal(FIRST, one, other), True)
            self.assertIs(closed.are_equal(FIRST, other, one), True)
        for one, other in (("", "a"), ("a", "aa"), ("ab", "b"), ("a", "A"), ("aaa", "a")):
            self.assertIs(closed.are_equal(FIRST, one, other), False)
            self.assertIs(closed.are_equal(FIRST, other, one), False)

    def test_lengths_that_sum_to_more_than_60(self):
        self.assertIs(closed.are_equal(FIRST, "a" * 60, "ab" * 30), False)
        self.assertIs(closed.are_equal(FIRST, "ab" * 30, "a" * 30), True)
        self.assertIs(closed.are_equal(FIRST, "ab" * 30, "ba" * 30), True)
        self.assertIs(closed.are_equal(FIRST, "a" * 60, "A" * 60), False)
        self.assertIs(closed.are_equal(FIRST, "a" * 60, "a" * 60), True)
        self.assertIs(closed.are_equal(FIRST, "a" * 60, "a" * 59), False)
        self.assertIs(closed.are_equal(FOUR, "ad" * 30, "da" * 30), True)
        self.assertIs(closed.are_equal(FOUR, "ad" * 30, "ad" * 29), False)
        self.assertIs(closed.are_equal(FOUR, "bcd" * 20, "dcb" * 20), True)

    def test_against_machines_behind_one_another(self):
        rng = random.Random(45)
        equal = 0
        for machine in support.MACHINES + tuple(support.some_machines(45, 10, 3)):
            for _ in range(10):
                one = support.some_word(rng, machine, 4)
                other = support.some_word(rng, machine, 3)
                expected = machine_of(machine, one) == machine_of(machine, other)
                equal += expected
                self.assertIs(closed.are_equal(machine, one, other), expected)
        self.assertGreater(equal, 10)

    def test_equal_words_do_and_become_the_same(self):
        for machine, one, other in ((FIRST, "aab", "baa"), (FOUR, "bc", "d"), (FOUR, "adad", "dada"), (FOUR, "D", "CB"),
                                    (support.LAMPS, "aaBB", "bbAA")):
            self.assertIs(closed.are_equal(machine, one, other), True)
            undone = [words.undone_word(machine, word) for word in (one, other)]
            self.assertIs(closed.are_equal(machine, *undone), True)
            self.assertIs(closed.are_equal(machine, one + "a" + one, other + "a" + other), True)
            for string in support.strings_up_to(machine[0], 5):
                self.assertEqual(sections.image_of(machine, one, string), sections.image_of(machine, other, string))
                parts = [sections.section_of(machine, word, string) for word in (one, other)]
                self.assertIs(closed.are_equal(machine, *parts), True)


class IsClosed(unittest.TestCase):
    """[40]."""

    def test_closed(self):
        for listed in ([], [""], ["b"], ["B"], ["", "b"], ["bb", "b", "B", ""], ["bbb"]):
            self.assertIs(closed.is_closed(FIRST, listed), True)
        for listed in (["aa", "ee"], ["ee", "aa"], ["e"], ["bcd", "aae", "cdb", "eee", "aea", "dbc", "eaa"]):
            self.assertIs(closed.is_closed(FOUR, listed), True)

    def test_a_word_left_out(self):
        whole = closed.closed_list(FOUR, "bcd")
        for index in range(len(whole)):
            rest = whole[:index] + whole[index + 1:]
            self.assertIs(closed.is_closed(FOUR, rest), False)

    def test_a_word_twice(self):
        self.assertIs(closed.is_closed(FIRST, ["b", "b"]), False)
        self.assertIs(closed.is_closed(FIRST, ["", ""]), False)
        whole = closed.closed_list(FOUR, "bcd")
        for word in whole:
            self.assertIs(closed.is_closed(FOUR, whole + [word]), False)

    def test_a_word_that_is_not_cut(self):
        self.assertIs(closed.is_closed(FIRST, ["aA"]), False)
        self.assertIs(closed.is_closed(FIRST, ["aA", ""]), False)
        self.assertIs(closed.is_closed(FIRST, ["", "b", "bBb"]), False)
        self.assertIs(closed.is_closed(FIRST, ["bB", "b", ""]), False)

    def test_a_word_that_moves_a_digit(self):
        self.assertIs(closed.is_closed(FIRST, ["a", "b"]), False)
        self.assertIs(closed.is_closed(FIRST, ["aa", "ab", "ba"]), False)
        # Both states of this machine only move the digits 1 and 2.
        machine = (3, (((0, 0), (2, 0), (1, 0)),))
        self.assertIs(closed.is_closed(machine, ["a"]), False)
        self.assertIs(closed.is_closed(machine, ["aa"]), True)

    def test_no_words_of_the_machine(self):
        for word in ("c", "z", "1", " ", "bc", "b b", "\u00e4"):
            self.assertIs(closed.is_closed(FIRST, [word]), False)
            self.assertIs(closed.is_closed(FIRST, ["b", word]), False)
            self.assertIs(closed.is_closed(FIRST, [word, "a"]), False)

    def test_long_words(self):
        # [40] sets no bound for the words of a list.
        self.assertIs(closed.is_closed(FIRST, ["b" * 61]), True)
        self.assertIs(closed.is_closed(FIRST, ["b" * 120, "b" * 60]), True)
        self.assertIs(closed.is_closed(FIRST, ["a" * 64]), False)

    def test_arguments_are_left_alone(self):
        whole = closed.closed_list(FOUR, "bcd")
        kept = list(whole)
        closed.is_closed(FOUR, whole)
        self.assertEqual(whole, kept)

    def test_a_word_is_at_rest_if_it_stands_in_a_closed_list(self):
        union = []
        for word in ("bcd", "adadadad", "bbcc"):
            for part in closed.closed_list(FOUR, word):
                if part not in union:
                    union.append(part)
        self.assertIs(closed.is_closed(FOUR, union), True)
        for word in union:
            self.assertIs(closed.is_at_rest(FOUR, word), True)


class Bounds(unittest.TestCase):
    def test_4000_sections_are_not_too_many(self):
        machine, word = support.AT_LIMIT
        found = closed.closed_list(machine, word)
        self.assertEqual(len(found), 4000)
        self.assertIs(closed.is_closed(machine, found), True)
        self.assertIs(closed.is_at_rest(machine, word), True)
        self.assertIs(closed.are_equal(machine, word, ""), True)
        self.assertIs(closed.are_equal(machine, word[:3], words.undone_word(machine, word[3:])), True)

    def test_more_may_be_too_many(self):
        machine, word = support.OVER_LIMIT
        undone = words.undone_word(machine, word[2:])
        for function, given in ((closed.is_at_rest, (word,)), (closed.are_equal, (word[:2], undone))):
            try:
                self.assertIs(function(machine, *given), True)
            except TooLarge:
                continue
        try:
            self.assertEqual(len(closed.closed_list(machine, word)), 4001)
        except TooLarge:
            self.assertGreater(len(support.closed_slowly(machine, word)[0]), 4000)

    def test_words_of_60_letters(self):
        answers = {"ad" * 28: True, "bcd" * 20: True, "ac" * 16: True, "acab" * 15: False, "adacadab" * 7: False}
        for word, rests in answers.items():
            self.assertIs(closed.is_at_rest(FOUR, word), rests)


class Errors(unittest.TestCase):
    def test_functions_of_one_word(self):
        for function in (closed.closed_list, closed.is_at_rest):
            for machine in tuple(WRONG.values()) + (NINE,):
                self.assertRaises(NotMachine, function, machine, "")
                self.assertRaises(NotMachine, function, machine, "z")
            for word in NO_WORDS:
                self.assertRaises(NotWord, function, FIRST, word)

    def test_are_equal(self):
        for machine in tuple(WRONG.values()) + (NINE,):
            self.assertRaises(NotMachine, closed.are_equal, machine, "", "")
            self.assertRaises(NotMachine, closed.are_equal, machine, "z", "z")
        for word in NO_WORDS:
            self.assertRaises(NotWord, closed.are_equal, FIRST, word, "")
            self.assertRaises(NotWord, closed.are_equal, FIRST, "", word)
            self.assertRaises(NotWord, closed.are_equal, FIRST, word, word)

    def test_is_closed(self):
        for machine in tuple(WRONG.values()) + (NINE,):
            for listed in ([], [""], ["z"]):
                self.assertRaises(NotMachine, closed.is_closed, machine, listed)


if __name__ == "__main__":
    unittest.main()
