import random
import unittest

import support
from leafturner import sections, words
from leafturner.errors import BadNumber, NotMachine, NotString, NotWord
from test_machines import WRONG
from test_words import NINE, NO_WORDS

FIRST = support.FIRST
NO_STRINGS = ("2", "3", "x", "a", "01 ", "-1", "0" * 61, "01" * 31)


def cases(seed, letters, digits):
    """Machines with a word and a string each."""
    rng = random.Random(seed)
    result = []
    for machine in support.MACHINES * 4 + tuple(support.some_machines(seed, 20, 8)):
        word = support.some_word(rng, machine, letters)
        result.append((machine, word, support.some_string(rng, machine[0], digits)))
    return result


class Images(unittest.TestCase):
    """[21] and [28]."""

    def test_the_examples(self):
        self.assertEqual(sections.image_of(FIRST, "a", "110"), "001")
        self.assertEqual(sections.image_of(FIRST, "A", "001"), "110")

    def test_the_first_letter_acts_first(self):
        machine = (3, (((1, 0), (0, 0), (2, 0)), ((0, 1), (2, 1), (1, 1))))
        self.assertEqual(sections.image_of(machine, "ab", "012"), "201")
        self.assertEqual(sections.image_of(machine, "ba", "012"), "120")

    def test_the_empty_word_and_the_empty_string(self):
        for machine in support.MACHINES:
            self.assertEqual(sections.image_of(machine, "", "0110"), "0110")
            self.assertEqual(sections.image_of(machine, "aBA", ""), "")

    def test_images_follow_the_letters(self):
        for machine, word, string in cases(24, 20, 20):
            self.assertEqual(sections.image_of(machine, word, string), support.image_by_word(machine, word, string))

    def test_sixty_letters_and_digits(self):
        self.assertEqual(sections.image_of(FIRST, "a" * 60, "0" * 60), "001111" + "0" * 54)
        self.assertEqual(sections.image_of(FIRST, "A" * 60, "001111" + "0" * 54), "0" * 60)

    def test_each_string_is_the_image_of_one(self):
        for machine, word, _ in cases(25, 10, 0):
            strings = support.strings_of_length(machine[0], 3)
            images = [sections.image_of(machine, word, string) for string in strings]
            self.assertEqual(sorted(images), strings)


class Sections(unittest.TestCase):
    """[24], [25] and [28]."""

    def test_the_examples(self):
        self.assertEqual(sections.section_of(FIRST, "aa", "0"), "ba")
        self.assertEqual(sections.section_of(FIRST, "aa", "1"), "ab")

    def test_large_letters(self):
        self.assertEqual(sections.section_of(FIRST, "A", "0"), "A")
        self.assertEqual(sections.section_of(FIRST, "A", "1"), "B")
        self.assertEqual(sections.section_of(FIRST, "AA", "0"), "AB")
        self.assertEqual(sections.section_of(FIRST, "AA", "1"), "BA")

    def test_at_the_empty_string(self):
        for word in ("", "a", "aA", "bBaA", "aB" * 30):
            self.assertEqual(sections.section_of(FIRST, word, ""), word)

    def test_sections_are_not_cut(self):
        self.assertEqual(sections.section_of(FIRST, "aA", "0"), "bB")
        self.assertEqual(sections.section_of(FIRST, "aA", "1"), "aA")
        self.assertEqual(sections.section_of(FIRST, "aA" * 30, "1"), "aA" * 30)

    def test_what_sections_do(self):
        for machine, word, u in cases(26, 12, 4):
            section = sections.section_of(machine, word, u)
            self.assertEqual(len(section), len(word))
            self.assertEqual(section, support.section_slowly(machine, word, u))
            for v in support.strings_of_length(machine[0], 3):
                self.assertEqual(support.image_by_word(machine, word, u + v),
                                 support.image_by_word(machine, word, u) + support.image_by_word(machine, section, v))

    def test_the_section_at_a_longer_string(self):
        for machine, word, string in cases(27, 12, 60):
            for length in (0, 1, len(string) // 2, len(string)):
                u, v = string[:length], string[length:]
                middle = sections.section_of(machine, word, u)
                self.assertEqual(sections.section_of(machine, word, u + v), sections.section_of(machine, middle, v))

    def test_the_section_of_a_product(self):
        for machine, word, x in cases(28, 30, 6):
            for length in (0, len(word) // 3, len(word)):
                u, v = word[:length], word[length:]
                image = sections.image_of(machine, u, x)
                self.assertEqual(sections.section_of(machine, u + v, x),
                                 sections.section_of(machine, u, x) + sections.section_of(machine, v, image))

    def test_the_section_of_an_undone_word(self):
        for machine, word, x in cases(29, 30, 6):
            image = sections.image_of(machine, word, x)
            undone = words.undone_word(machine, word)
            self.assertEqual(sections.section_of(machine, undone, image),
                             words.undone_word(machine, sections.section_of(machine, word, x)))
            self.assertEqual(sections.image_of(machine, undone, image), x)


class Rows(unittest.TestCase):
    """[26] and [28]."""

    def test_the_example(self):
        self.assertEqual(sections.row_of_word(FIRST, "a"), ((1, 0), ("b", "a")))

    def test_rows(self):
        self.assertEqual(sections.row_of_word(FIRST, ""), ((0, 1), ("", "")))
        self.assertEqual(sections.row_of_word(FIRST, "A"), ((1, 0), ("A", "B")))
        self.assertEqual(sections.row_of_word(FIRST, "aa"), ((0, 1), ("ba", "ab")))
        self.assertEqual(sections.row_of_word(support.THREE_DIGITS, "a"), ((1, 2, 0), ("b", "a", "c")))

    def test_its_sections_are_cut(self):
        self.assertEqual(sections.row_of_word(FIRST, "aA"), ((0, 1), ("", "")))
        # aB is cut, but its section at 0 is bB.
        self.assertEqual(sections.row_of_word(FIRST, "aB"), ((1, 0), ("", "aB")))

    def test_rows_of_words(self):
        for machine, word, _ in cases(30, 20, 0):
            digits = "0123"[:machine[0]]
            outs = tuple([int(support.image_by_word(machine, word, x)) for x in digits])
            parts = tuple([support.cut_slowly(support.section_slowly(machine, word, x)) for x in digits])
            self.assertEqual(sections.row_of_word(machine, word), (outs, parts))


class Keeping(unittest.TestCase):
    """[27]."""

    def test_keeps(self):
        self.assertIs(sections.keeps(FIRST, "a", ""), True)
        self.assertIs(sections.keeps(FIRST, "a", "0"), False)
        self.assertIs(sections.keeps(FIRST, "aa", "0"), True)
        self.assertIs(sections.keeps(FIRST, "aa", "1"), True)
        self.assertIs(sections.keeps(FIRST, "aa", "10"), False)
        self.assertIs(sections.keeps(FIRST, "b", "01" * 30), True)
        self.assertIs(sections.keeps(FIRST, "", "01" * 30), True)
        # b keeps some strings of two digits, but not all of them.
        self.assertIs(sections.keeps(support.FOUR_STATES, "b", "11"), True)
        self.assertIs(sections.keeps(support.FOUR_STATES, "b", "01"), False)

    def test_keeping_goes_on_in_the_section(self):
        for machine, word, _ in cases(31, 6, 0):
            for u in support.strings_of_length(machine[0], 2):
                kept = support.image_by_word(machine, word, u) == u
                self.assertIs(sections.keeps(machine, word, u), kept)
                if kept:
                    section = sections.section_of(machine, word, u)
                    for v in support.strings_of_length(machine[0], 2):
                        self.assertIs(sections.keeps(machine, word, u + v), sections.keeps(machine, section, v))

    def test_keeps_length(self):
        for machine, word, _ in cases(32, 4, 0):
            for power in (word, word * 2, word * 4, word * 12):
                for length in range(5):
                    strings = support.strings_of_length(machine[0], length)
                    kept = all([support.image_by_word(machine, power, u) == u for u in strings])
                    self.assertIs(sections.keeps_length(machine, power, length), kept)

    def test_the_lengths_0_and_8(self):
        for machine in support.MACHINES:
            self.assertIs(sections.keeps_length(machine, "a", 0), True)
            self.assertIs(sections.keeps_length(machine, "", 8), True)
            self.assertIs(sections.keeps_length(machine, "abBA", 8), True)
        for length in range(9):
            self.assertIs(sections.keeps_length(FIRST, "a" * 32, length), length <= 5)
        delay = support.cycle(2, 8)
        for length in range(9):
            self.assertIs(sections.keeps_length(delay, "b", length), length <= 7)
            self.assertIs(sections.keeps_length(delay, "aa", length), True)
            self.assertIs(sections.keeps_length(support.cycle(4, 8), "B", length), length <= 7)

    def test_many_sections(self):
        machine = support.identity_machine(((1, 2, 3, 4, 5, 6, 7, 0), (1, 0, 2, 3, 4, 5, 6, 7),
                                            (0, 1, 3, 2, 4, 5, 7, 6), (7, 6, 5, 4, 3, 2, 1, 0)))
        self.assertIs(sections.keeps_length(machine, "abcdefgh" * 7 + "abcd", 8), True)


class Errors(unittest.TestCase):
    def test_functions_with_strings(self):
        for function in (sections.image_of, sections.section_of, sections.keeps):
            for machine in tuple(WRONG.values()) + (NINE,):
                self.assertRaises(NotMachine, function, machine, "z", "x")
                self.assertRaises(NotMachine, function, machine, "", "")
            for word in NO_WORDS:
                self.assertRaises(NotWord, function, FIRST, word, "0")
                self.assertRaises(NotWord, function, FIRST, word, "x")
            for string in NO_STRINGS:
                self.assertRaises(NotString, function, FIRST, "a", string)
                self.assertRaises(NotString, function, FIRST, "", string)
            self.assertRaises(NotString, function, support.THREE_DIGITS, "a", "03")
            self.assertRaises(NotString, function, support.FOUR_DIGITS, "a", "04")

    def test_row_of_word(self):
        for machine in tuple(WRONG.values()) + (NINE,):
            self.assertRaises(NotMachine, sections.row_of_word, machine, "z")
        for word in NO_WORDS:
            self.assertRaises(NotWord, sections.row_of_word, FIRST, word)

    def test_keeps_length(self):
        for machine in tuple(WRONG.values()) + (NINE,):
            self.assertRaises(NotMachine, sections.keeps_length, machine, "z", -1)
        for word in NO_WORDS:
            self.assertRaises(NotWord, sections.keeps_length, FIRST, word, -1)
        for length in (-1, 9, 10, 100, support.GREAT):
            self.assertRaises(BadNumber, sections.keeps_length, FIRST, "a", length)
            self.assertRaises(BadNumber, sections.keeps_length, FIRST, "", length)


if __name__ == "__main__":
    unittest.main()
