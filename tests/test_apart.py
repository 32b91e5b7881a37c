import random
import unittest

import support
from leafturner import apart, closed, sections
from leafturner.errors import BadNumber, NotMachine, NotWord, TooLarge
from test_closed import machine_of
from test_machines import WRONG
from test_words import NINE, NO_WORDS

FIRST = support.FIRST
FOUR = support.FOUR_STATES
FREE = support.FREE

# The first one has exactly 200 least words of up to 5 letters, the second one exactly 201 of up to 4.
TWO_HUNDRED = (3, (((1, 1), (0, 1), (2, 1)), ((1, 3), (2, 3), (0, 1)), ((0, 3), (1, 3), (2, 2)),
                   ((0, 3), (1, 3), (2, 3))))
ONE_MORE = (2, (((1, 4), (0, 5)), ((0, 5), (1, 2)), ((0, 3), (1, 5)), ((0, 4), (1, 5)), ((1, 5), (0, 5)),
                ((0, 5), (1, 5))))


def first_string_slowly(machine, one, other, most):
    for string in support.strings_up_to(machine[0], most):
        if support.image_by_word(machine, one, string) != support.image_by_word(machine, other, string):
            return string
    return None


def table_slowly(machine, length):
    """The first word for each least machine that words of up to so many letters have."""
    found = {}
    for word in support.words_up_to(machine, length):
        found.setdefault(machine_of(machine, word), word)
    return list(found.values())


class FirstStrings(unittest.TestCase):
    """[42], [43] and [46]."""

    def test_the_example(self):
        self.assertEqual(apart.first_string(FIRST, "a", "A"), "00")

    def test_known_words(self):
        self.assertEqual(apart.first_string(FIRST, "a", ""), "0")
        self.assertEqual(apart.first_string(FIRST, "", "aa"), "00")
        self.assertEqual(apart.first_string(FIRST, "a" * 32, ""), "000000")
        self.assertEqual(apart.first_string(FIRST, "a" * 60, "A" * 60), "0000")
        self.assertEqual(apart.first_string(FIRST, "a" * 59, "a" * 60), "0")
        self.assertEqual(apart.first_string(support.cycle(3, 8), "b", ""), "00000000")
        self.assertEqual(apart.first_string(FOUR, "b", ""), "00")
        self.assertEqual(apart.first_string(FOUR, "c", "b"), "100")
        self.assertEqual(apart.first_string(FOUR, "d", ""), "100")

    def test_none_for_equal_words(self):
        for one, other in (("", ""), ("b", ""), ("ab", "ba"), ("aA", "Bb"), ("a" * 31, "ab" * 29 + "aa")):
            self.assertIsNone(apart.first_string(FIRST, one, other))
        self.assertIsNone(apart.first_string(FIRST, "ab" * 30, "ba" * 30))
        self.assertIsNone(apart.first_string(FOUR, "adad", "dada"))
        self.assertIsNone(apart.first_string(support.LAMPS, "aaBB", "bbAA"))

    def test_a_digit_that_is_not_0(self):
        machine = (4, (((0, 1), (1, 0), (3, 0), (2, 0)), ((0, 1), (1, 1), (2, 1), (3, 0))))
        self.assertEqual(apart.first_string(machine, "a", ""), "2")
        self.assertEqual(apart.first_string(machine, "b", ""), "32")
        self.assertEqual(apart.first_string(machine, "a", "ab"), "22")

    def test_the_first_one_in_order(self):
        rng = random.Random(50)
        lengths = {}
        for machine in support.MACHINES * 2 + tuple(support.some_machines(50, 25, 4)):
            most = {2: 7, 3: 5, 4: 4}[machine[0]]
            for _ in range(8):
                one = support.some_word(rng, machine, 4)
                other = rng.choice((support.some_word(rng, machine, 4), one[1:] + one[:1], one[::-1]))
                found = apart.first_string(machine, one, other)
                lengths[None if found is None else len(found)] = True
                if found is not None and len(found) > most:
                    continue
                self.assertEqual(found, first_string_slowly(machine, one, other, most))
        self.assertGreaterEqual(len(lengths), 5)

    def test_only_the_whole_string_has_different_images(self):
        rng = random.Random(51)
        for machine in support.MACHINES + tuple(support.some_machines(51, 15, 6)):
            for _ in range(10):
                one = support.some_word(rng, machine, 10)
                other = support.some_word(rng, machine, 10)
                found = apart.first_string(machine, one, other)
                self.assertEqual(found is None, closed.are_equal(machine, one, other))
                self.assertEqual(found, apart.first_string(machine, other, one))
                if found is not None:
                    images = [support.image_by_word(machine, word, found) for word in (one, other)]
                    self.assertNotEqual(images[0], images[1])
                    self.assertEqual(images[0][:-1], images[1][:-1])

    def test_a_closed_list_or_a_string_never_both(self):
        rng = random.Random(52)
        for machine in support.MACHINES:
            for _ in range(15):
                word = support.some_word(rng, machine, 6)
                listed = closed.closed_list(machine, word)
                string = apart.first_string(machine, word, "")
                self.assertNotEqual(listed is None, string is None)
                if string is not None:
                    self.assertIs(sections.keeps(machine, word, string), False)
                    self.assertIs(sections.keeps(machine, word, string[:-1]), True)

    def test_bounds(self):
        machine, word = support.AT_LIMIT
        self.assertIsNone(apart.first_string(machine, word, ""))
        machine, word = support.OVER_LIMIT
        try:
            self.assertIsNone(apart.first_string(machine, "", word))
        except TooLarge:
            pass


class Classes(unittest.TestCase):
    """[45]."""

    def test_known_words(self):
        self.assertEqual(apart.classes(FIRST, []), [])
        self.assertEqual(apart.classes(FIRST, ["a"]), [0])
        self.assertEqual(apart.classes(FIRST, ["a", "b", "ab", "", "aA", "aa", "B", "a", "aab"]),
                         [0, 1, 0, 1, 1, 5, 1, 0, 5])
        self.assertEqual(apart.classes(FOUR, ["aa", "bc", "d", "cb", "", "bd", "C"]), [0, 1, 1, 1, 0, 5, 5])

    def test_against_comparing_one_by_one(self):
        rng = random.Random(53)
        for machine in support.MACHINES + tuple(support.some_machines(53, 10, 4)):
            listed = [support.some_word(rng, machine, 4) for _ in range(40)]
            kept = list(listed)
            expected = [min([j for j in range(i + 1) if closed.are_equal(machine, listed[j], word)])
                        for i, word in enumerate(listed)]
            self.assertEqual(apart.classes(machine, listed), expected)
            self.assertEqual(listed, kept)

    def test_up_to_60_words(self):
        self.assertEqual(apart.classes(FIRST, ["b"] * 60), [0] * 60)
        self.assertEqual(apart.classes(FIRST, ["a" * n for n in range(60)]), list(range(60)))
        self.assertEqual(apart.classes(FIRST, ["ab" * n for n in range(31)] + ["a" * n for n in range(29)]),
                         list(range(31)) + list(range(29)))
        self.assertRaises(TooLarge, apart.classes, FIRST, ["b"] * 61)
        self.assertRaises(TooLarge, apart.classes, FIRST, [""] * 61)
        self.assertRaises(TooLarge, apart.classes, FIRST, ["a" * n for n in range(60)] + ["A"])

    def test_results_are_not_shared(self):
        listed = ["a", "b"]
        found = apart.classes(FIRST, listed)
        found.append(9)
        self.assertEqual(apart.classes(FIRST, listed), [0, 1])
        self.assertEqual(listed, ["a", "b"])

    def test_errors_in_their_order(self):
        for machine in tuple(WRONG.values()) + (NINE,):
            self.assertRaises(NotMachine, apart.classes, machine, [])
            self.assertRaises(NotMachine, apart.classes, machine, ["z"] * 61)
        for word in NO_WORDS:
            self.assertRaises(NotWord, apart.classes, FIRST, [word])
            self.assertRaises(NotWord, apart.classes, FIRST, ["a"] * 61 + [word])


class Tables(unittest.TestCase):
    """[45]."""

    def test_known_tables(self):
        for machine in support.MACHINES:
            self.assertEqual(apart.table(machine, 0), [""])
        self.assertEqual(apart.table(FIRST, 1), ["", "a", "A"])
        self.assertEqual(apart.table(FIRST, 3), ["", "a", "A", "aa", "AA", "aaa", "AAA"])
        self.assertEqual(apart.table(FIRST, 6)[-3:], ["AAAAA", "aaaaaa", "AAAAAA"])
        self.assertEqual(apart.table((2, (((0, 0), (1, 0)),)), 6), [""])
        self.assertEqual(apart.table(FOUR, 2), ["", "a", "b", "c", "d", "ab", "ac", "ad", "ba", "ca", "da"])
        self.assertEqual(apart.table(support.LAMPS, 1), ["", "a", "A", "b", "B"])

    def test_against_all_words(self):
        lengths = (3, 2, 2, 4, 3, 2)
        for machine, length in tuple(zip(support.MACHINES, lengths)) + (((3, (((1, 0), (0, 0), (2, 0)),)), 6),):
            for n in range(length + 1):
                self.assertEqual(apart.table(machine, n), table_slowly(machine, n))

    def test_small_machines(self):
        for machine in support.some_machines(54, 20, 2):
            self.assertEqual(apart.table(machine, 3), table_slowly(machine, 3))

    def test_parts_of_least_words_are_least_words(self):
        for machine, length in ((FOUR, 6), (support.LAMPS, 4), (support.THREE_DIGITS, 3)):
            found = apart.table(machine, length)
            self.assertEqual(found, sorted(found, key=support.order_key))
            for word in found:
                for i in range(len(word)):
                    for j in range(i, len(word)):
                        self.assertIn(word[i:j], found)

    def test_up_to_200_words(self):
        found = apart.table(TWO_HUNDRED, 5)
        self.assertEqual(len(found), 200)
        self.assertEqual(found, support.level_words(TWO_HUNDRED, 5, 5))
        self.assertEqual(apart.table(ONE_MORE, 3), support.level_words(ONE_MORE, 6, 3))
        self.assertEqual(len(support.level_words(ONE_MORE, 6, 4)), 201)
        self.assertRaises(TooLarge, apart.table, ONE_MORE, 4)
        self.assertRaises(TooLarge, apart.table, ONE_MORE, 6)
        self.assertRaises(TooLarge, apart.table, TWO_HUNDRED, 6)
        self.assertEqual(len(apart.table(FREE, 3)), 187)
        self.assertRaises(TooLarge, apart.table, FREE, 4)

    def test_the_length(self):
        for length in (-1, 7, 8, 100, support.GREAT):
            self.assertRaises(BadNumber, apart.table, FIRST, length)
            self.assertRaises(BadNumber, apart.table, FREE, length)
            for machine in tuple(WRONG.values()) + (NINE,):
                self.assertRaises(NotMachine, apart.table, machine, length)

    def test_no_machine(self):
        for machine in tuple(WRONG.values()) + (NINE,):
            self.assertRaises(NotMachine, apart.table, machine, 0)

    def test_results_are_not_shared(self):
        for length in (0, 2):
            found = apart.table(FIRST, length)
            found.append("x")
            self.assertNotIn("x", apart.table(FIRST, length))


class LeastWords(unittest.TestCase):
    """[45]."""

    def test_known_words(self):
        least = {"": "", "a": "a", "b": "", "ab": "a", "aA": "", "bab": "a", "BAAb": "AA", "aaaa": "aaaa"}
        for word, expected in least.items():
            self.assertEqual(apart.least_word(FIRST, word), expected)
        self.assertIsNone(apart.least_word(FIRST, "aaaaa"))
        self.assertEqual(apart.least_word(FIRST, "aaaaa", most=5), "aaaaa")
        self.assertEqual(apart.least_word(FOUR, "cb"), "d")
        self.assertEqual(apart.least_word(FOUR, "DADADA"), "ad")
        self.assertEqual(apart.least_word(FOUR, "adada"), "dad")

    def test_most_and_its_bounds(self):
        for most in range(7):
            for length in range(9):
                expected = "A" * length if length <= most else None
                self.assertEqual(apart.least_word(FIRST, "A" * length, most=most), expected)
            self.assertEqual(apart.least_word(FIRST, "b" * 9, most=most), "")
        for most in (-1, 7, 8, 100, -support.GREAT):
            self.assertRaises(BadNumber, apart.least_word, FIRST, "a", most=most)
            self.assertRaises(BadNumber, apart.least_word, FREE, "", most=most)

    def test_long_words_with_a_short_least_word(self):
        self.assertEqual(apart.least_word(FIRST, "ab" * 2 + "b" * 56), "aa")
        self.assertEqual(apart.least_word(FIRST, "a" * 22 + "bA" * 19, most=3), "aaa")
        self.assertEqual(apart.least_word(FOUR, "bcd" * 19 + "cda", most=2), "ba")
        self.assertEqual(apart.least_word(FOUR, "ad" * 29, most=2), "ad")
        self.assertIsNone(apart.least_word(FOUR, "ad" * 30, most=3))
        self.assertEqual(apart.least_word(FOUR, "ad" * 30), "adad")
        self.assertIsNone(apart.least_word(FIRST, "a" * 60, most=6))

    def test_against_comparing_one_by_one(self):
        rng = random.Random(55)
        for machine, most in ((FIRST, 6), (FOUR, 4), (support.LAMPS, 3), (support.THREE_DIGITS, 3), (FREE, 2)):
            found = table_slowly(machine, min(most, 3))
            for _ in range(12):
                word = support.some_word(rng, machine, 7)
                expected = [least for least in found if closed.are_equal(machine, least, word)]
                answer = apart.least_word(machine, word, most=min(most, 3))
                self.assertEqual(answer, expected[0] if expected else None)

    def test_too_many_least_words(self):
        self.assertEqual(apart.least_word(TWO_HUNDRED, "ddddd", most=5), "")
        self.assertRaises(TooLarge, apart.least_word, TWO_HUNDRED, "", most=6)
        self.assertRaises(TooLarge, apart.least_word, ONE_MORE, "a", most=4)
        self.assertRaises(TooLarge, apart.least_word, ONE_MORE, "a")
        self.assertEqual(apart.least_word(ONE_MORE, "afF", most=3), "a")
        self.assertRaises(TooLarge, apart.least_word, FREE, "")
        self.assertEqual(apart.least_word(FREE, "abcCB", most=3), "a")

    def test_errors_in_their_order(self):
        for machine in tuple(WRONG.values()) + (NINE,):
            self.assertRaises(NotMachine, apart.least_word, machine, "z", most=-1)
            self.assertRaises(NotMachine, apart.least_word, machine, "")
        for word in NO_WORDS:
            self.assertRaises(NotWord, apart.least_word, FIRST, word, most=-1)
            self.assertRaises(NotWord, apart.least_word, FREE, word + "1", most=6)


class Errors(unittest.TestCase):
    def test_first_string(self):
        for machine in tuple(WRONG.values()) + (NINE,):
            self.assertRaises(NotMachine, apart.first_string, machine, "", "")
            self.assertRaises(NotMachine, apart.first_string, machine, "z", "z")
        for word in NO_WORDS:
            self.assertRaises(NotWord, apart.first_string, FIRST, word, "")
            self.assertRaises(NotWord, apart.first_string, FIRST, "", word)
            self.assertRaises(NotWord, apart.first_string, FIRST, word, word)


if __name__ == "__main__":
    unittest.main()
