import random
import unittest

import support
from leafturner import endless, orders, sections, wordmachine
from leafturner.errors import BadNumber, NotEndless, NotMachine, NotWord, TooLarge
from test_machines import WRONG
from test_words import NINE, NO_WORDS

FIRST = support.FIRST
FOUR = support.FOUR_STATES
GREAT = support.GREAT

# The digit 2 changes nothing; at the digit 0 the sections of the first word come again after exactly 2000 steps, and
# those of the second one after 400. The third word goes 344 steps before it comes to a round of 108 steps.
AFTER_2000 = ((3, (((0, 0), (1, 3), (2, 0)), ((0, 4), (1, 2), (2, 1)), ((1, 3), (0, 4), (2, 2)),
                   ((1, 1), (0, 1), (2, 3)), ((1, 2), (0, 0), (2, 4)), ((0, 6), (1, 6), (2, 6)),
                   ((0, 6), (1, 6), (2, 6)))), "cddad")
AFTER_400 = ((3, (((0, 2), (1, 0), (2, 0)), ((1, 0), (0, 4), (2, 1)), ((1, 3), (0, 1), (2, 2)),
                  ((0, 4), (1, 2), (2, 3)), ((1, 1), (0, 3), (2, 4)))), "bcde")
BEHIND_344 = ((3, (((1, 0), (0, 3), (2, 0)), ((1, 1), (0, 4), (2, 1)), ((0, 4), (1, 6), (2, 2)),
                   ((1, 3), (0, 2), (2, 3)), ((0, 6), (1, 1), (2, 4)), ((1, 5), (0, 0), (2, 5)),
                   ((1, 2), (0, 5), (2, 6)))), "BEFDBBBFEC")

NO_PAIRS = (("", ""), ("0", ""), ("2", "0"), ("0", "2"), ("x", "1"), ("0", " "), ("0" * 61, "1"), ("1", "01" * 31),
            ("", "0" * 61), ("\u0661", "0"), ("0", "1\n"))


def digits(pair, length):
    begin, again = pair
    return (begin + again * (length // len(again) + 1))[:length]


def some_pair(rng, k, most):
    again = ""
    while again == "":
        again = support.some_string(rng, k, most) * rng.choice((1, 1, 2, 3))
    return (support.some_string(rng, k, most) + again[rng.randint(0, len(again)):], again)


def short_slowly(pair):
    """The first pair, by the lengths of its again and then of its begin, that tells the same digits."""
    begin, again = pair
    many = 3 * len(begin + again)
    whole = digits(pair, many)
    for length in range(1, len(again) + 1):
        for before in range(len(begin) + 1):
            other = (whole[:before], whole[before:before + length])
            if digits(other, many) == whole:
                return other


def some_pairs(seed, count, letters, most):
    rng = random.Random(seed)
    chosen = support.MACHINES + tuple(support.some_machines(seed, 15, 4))
    return [(machine, support.some_word(rng, machine, letters), some_pair(rng, machine[0], most))
            for machine in chosen for _ in range(count)]


def numbers_met(machine, word, pair):
    """The numbers i and j of [122]."""
    begin, again = pair
    section = support.section_slowly(machine, word, begin)
    met = []
    while section not in met:
        met.append(section)
        section = support.section_slowly(machine, section, again)
    return met.index(section), len(met)


class Checks(unittest.TestCase):
    """[120]."""

    def test_check_endless(self):
        for k, pair in ((2, ("", "0")), (2, ("01" * 30, "10" * 30)), (3, ("2", "2")), (4, ("0123", "3"))):
            self.assertIsNone(endless.check_endless(k, pair))
        for k in (2, 3, 4):
            for pair in NO_PAIRS:
                wrong = (pair[0].replace("2", str(k)), pair[1].replace("2", str(k)))
                self.assertRaises(NotEndless, endless.check_endless, k, wrong)
        self.assertRaises(NotEndless, endless.check_endless, 3, ("", "3"))

    def test_the_number_of_digits_is_looked_at_first(self):
        one = ("", "0")
        wrong = ("", "")
        for k in (1, 5, 0, -1, GREAT, -GREAT):
            for pair in (one, wrong):
                self.assertRaises(BadNumber, endless.check_endless, k, pair)
                self.assertRaises(BadNumber, endless.short_form, k, pair)
                self.assertRaises(BadNumber, endless.beginning, k, pair, -1)
                for function in (endless.first_difference, endless.are_tail_alike, endless.are_level_alike):
                    self.assertRaises(BadNumber, function, k, pair, one)
                    self.assertRaises(BadNumber, function, k, one, pair)

    def test_other_pairs(self):
        for pair in NO_PAIRS:
            self.assertRaises(NotEndless, endless.short_form, 2, pair)
            for length in (-1, 0, 2001):
                self.assertRaises(NotEndless, endless.beginning, 2, pair, length)
            for function in (endless.first_difference, endless.are_tail_alike, endless.are_level_alike):
                self.assertRaises(NotEndless, function, 2, pair, ("", "0"))
                self.assertRaises(NotEndless, function, 2, ("", "0"), pair)


class Beginnings(unittest.TestCase):
    """[120]."""

    def test_against_the_digits(self):
        rng = random.Random(120)
        for _ in range(100):
            k = rng.choice((2, 3, 4))
            pair = some_pair(rng, k, 6)
            for length in (0, 1, 2, 3, 17, rng.randint(0, 2000), 2000):
                self.assertEqual(endless.beginning(k, pair, length), digits(pair, length))
        self.assertEqual(endless.beginning(2, ("011", "1"), 2), "01")
        self.assertEqual(len(endless.beginning(2, ("01" * 30, "10" * 30), 2000)), 2000)

    def test_lengths(self):
        for length in (-1, 2001, 5000, GREAT, -GREAT):
            self.assertRaises(BadNumber, endless.beginning, 2, ("", "0"), length)


class ShortForms(unittest.TestCase):
    """[121]."""

    def test_the_examples(self):
        """[127]."""
        self.assertEqual(endless.short_form(2, ("01", "0101")), ("", "01"))
        self.assertEqual(endless.short_form(2, ("01", "1010")), ("01", "10"))

    def test_begins_that_end_as_again_does(self):
        self.assertEqual(endless.short_form(2, ("1000", "0")), ("1", "0"))
        self.assertEqual(endless.short_form(2, ("0000", "0")), ("", "0"))
        self.assertEqual(endless.short_form(2, ("1", "01")), ("", "10"))
        self.assertEqual(endless.short_form(2, ("001", "01")), ("0", "01"))
        self.assertEqual(endless.short_form(3, ("1012", "2012")), ("1", "0122"))
        self.assertEqual(endless.short_form(3, ("12012", "012")), ("", "120"))

    def test_60_digits(self):
        self.assertEqual(endless.short_form(2, ("01" * 30, "01" * 30)), ("", "01"))
        self.assertEqual(endless.short_form(2, ("1" * 60, "0" * 59 + "1")), ("1" * 59, "10" + "0" * 58))
        self.assertEqual(endless.short_form(2, ("", "0" * 59 + "1")), ("", "0" * 59 + "1"))

    def test_against_looking_for_the_shortest(self):
        rng = random.Random(121)
        for _ in range(300):
            k = rng.choice((2, 2, 3, 4))
            pair = some_pair(rng, k, 5)
            begin, again = endless.short_form(k, pair)
            self.assertEqual((begin, again), short_slowly(pair))
            self.assertTrue(begin == "" or begin[-1] != again[-1])
            self.assertEqual(endless.short_form(k, (begin, again)), (begin, again))

    def test_the_same_digits_exactly_if_the_same_short_form(self):
        rng = random.Random(122)
        answers = {True: 0, False: 0}
        for _ in range(400):
            one, other = some_pair(rng, 2, 2), some_pair(rng, 2, 2)
            same = digits(one, 200) == digits(other, 200)
            self.assertIs(endless.short_form(2, one) == endless.short_form(2, other), same)
            answers[same] += 1
        self.assertGreater(min(answers.values()), 20)


class Differences(unittest.TestCase):
    """[121], [125] and [126]."""

    def test_first_difference(self):
        self.assertEqual(endless.first_difference(2, ("", "0"), ("", "1")), 0)
        self.assertEqual(endless.first_difference(2, ("", "01"), ("01", "0110")), 4)
        self.assertEqual(endless.first_difference(2, ("0", "10"), ("0101", "1")), 4)
        self.assertIsNone(endless.first_difference(2, ("01", "01"), ("", "0101")))

    def test_against_the_digits_one_by_one(self):
        rng = random.Random(126)
        found = {}
        for _ in range(500):
            k = rng.choice((2, 3))
            one, other = some_pair(rng, k, 3), some_pair(rng, k, 3)
            if rng.random() < 0.5:
                other = (digits(one, rng.randint(0, 5)), other[1])
            places = [at for at, (x, y) in enumerate(zip(digits(one, 300), digits(other, 300))) if x != y]
            expected = places[0] if places else None
            self.assertEqual(endless.first_difference(k, one, other), expected)
            found[expected] = True
            if expected is not None:
                bound = max(len(one[0]), len(other[0])) + len(one[1]) + len(other[1])
                self.assertLess(expected, bound)
        self.assertGreater(len(found), 8)
        self.assertIn(None, found)

    def test_close_to_the_bound(self):
        # Fibonacci words of 34 and 55 digits agree, again and again, on 34 + 55 - 2 digits.
        one, other = "0", "01"
        while len(one) < 34:
            one, other = other, other + one
        self.assertEqual((len(one), len(other)), (34, 55))
        self.assertEqual(endless.first_difference(2, ("", one), ("", other)), 87)
        begin = "01" * 30
        self.assertEqual(endless.first_difference(2, (begin, one), (begin, other)), 147)
        self.assertEqual(endless.first_difference(2, ("0" * 60, "0" * 59 + "1"), ("0" * 60, "0")), 119)

    def test_tail_alike(self):
        alike = ((("", "01"), ("1", "10")), (("", "01"), ("0", "01")), (("111", "0"), ("", "000")),
                 (("", "001"), ("11", "100100")))
        for one, other in alike:
            self.assertIs(endless.are_tail_alike(2, one, other), True)
            self.assertIs(endless.are_tail_alike(2, other, one), True)
        for one, other in ((("", "01"), ("", "0")), (("", "001"), ("", "011")), (("", "0"), ("", "1")),
                           (("", "0011"), ("", "0101")), (("", "01"), ("", "010"))):
            self.assertIs(endless.are_tail_alike(2, one, other), False)
            self.assertIs(endless.are_tail_alike(2, other, one), False)

    def test_level_alike(self):
        for one, other in ((("", "01"), ("1", "10")), (("0", "1"), ("1110", "1")), (("01", "001"), ("11", "001001"))):
            self.assertIs(endless.are_level_alike(2, one, other), True)
            self.assertIs(endless.are_level_alike(2, other, one), True)
        for one, other in ((("", "01"), ("", "10")), (("", "01"), ("0", "01")), (("", "001"), ("", "01"))):
            self.assertIs(endless.are_level_alike(2, one, other), False)
            self.assertIs(endless.are_level_alike(2, other, one), False)

    def test_both_against_taking_digits_away(self):
        rng = random.Random(125)
        answers = {}
        for _ in range(400):
            one, other = some_pair(rng, 2, 3), some_pair(rng, 2, 3)
            ends = [digits(one, 400)[200 + turn:300 + turn] for turn in range(40)]
            end = digits(other, 400)[200:300]
            self.assertIs(endless.are_tail_alike(2, one, other), end in ends)
            self.assertIs(endless.are_level_alike(2, one, other), end == ends[0])
            answers[(end in ends, end == ends[0])] = True
        self.assertEqual(len(answers), 3)


class Images(unittest.TestCase):
    """[122] and [123]."""

    def test_the_examples(self):
        """[127]."""
        self.assertEqual(endless.image(FIRST, "a", ("", "1")), ("", "0"))
        self.assertEqual(endless.image(FIRST, "a", ("", "0")), ("1", "0"))

    def test_against_images_of_long_beginnings(self):
        long = 0
        for machine, word, pair in some_pairs(122, 6, 4, 4):
            begin, again = endless.image(machine, word, pair)
            long += len(again) > 4
            length = len(begin) + 2 * len(again) + 20
            image = digits((begin, again), length)
            self.assertEqual(sections.image_of(machine, word, digits(pair, 60)), digits((begin, again), 60))
            if length <= 400:
                self.assertEqual(support.image_by_word(machine, word, digits(pair, length)), image)
            if len(begin) <= 60 and len(again) <= 60:
                self.assertEqual(endless.short_form(machine[0], (begin, again)), (begin, again))
        self.assertGreater(long, 2)

    def test_words_that_are_not_cut(self):
        for machine, word, pair in some_pairs(123, 2, 4, 4):
            letter = support.letters_of(machine)[-1]
            longer = word + letter + letter.swapcase()
            self.assertEqual(endless.image(machine, longer, pair), endless.image(machine, word, pair))

    def test_long_strings(self):
        for (machine, word), pair in ((AFTER_400, ("", "0")), (AFTER_400, ("12", "0222")), (AFTER_400, ("1", "12")),
                                      (BEHIND_344, ("", "0")), (BEHIND_344, ("2", "02")), (BEHIND_344, ("1", "001"))):
            begin, again = endless.image(machine, word, pair)
            i, j = numbers_met(machine, word, pair)
            made = len(pair[0]) + i * len(pair[1])
            self.assertLessEqual(len(begin), made)
            self.assertEqual((j - i) * len(pair[1]) % len(again), 0)
            self.assertGreater(len(again), 40)
            length = made + 2 * (j - i) * len(pair[1])
            image, _ = sections.read_string(sections.steps_of(machine), word, digits(pair, length))
            self.assertEqual(digits((begin, again), length), image)
            self.assertEqual(image[:80], support.image_by_word(machine, word, digits(pair, 80)))

    def test_2000_sections(self):
        machine, word = AFTER_2000
        begin, again = endless.image(machine, word, ("", "0"))
        self.assertEqual(begin, "")
        self.assertEqual(2000 % len(again), 0)
        # The state f goes on in a state at rest, and then the others come again.
        for function, values in ((endless.image, ()), (endless.keeps, ()), (endless.way, (1,)),
                                 (endless.round_of, (1,))):
            self.assertRaises(TooLarge, function, machine, "f" + word, ("", "0"), *values)
            self.assertRaises(TooLarge, function, machine, word, ("", "0" + "2" * 10), *values)
        self.assertIs(endless.keeps(machine, word, ("", "0")), False)
        self.assertEqual(endless.way(machine, "f" + word, ("", "0"), 0), [("", "0")])

    def test_20000_digits_come_again(self):
        machine, word = AFTER_400
        self.assertEqual(numbers_met(machine, word, ("", "0")), (0, 400))
        _, again = endless.image(machine, word, ("", "0" + "2" * 49))
        self.assertEqual(20000 % len(again), 0)
        self.assertGreater(len(again), 2000)
        self.assertRaises(TooLarge, endless.image, machine, word, ("", "0" + "2" * 50))
        self.assertRaises(TooLarge, endless.keeps, machine, word, ("", "0" + "2" * 59))

    def test_20000_digits_begin(self):
        machine, word = BEHIND_344
        self.assertEqual(numbers_met(machine, word, ("", "0")), (344, 452))
        # 344 * 58 is 19952.
        pair = ("2" * 48, "0" + "2" * 57)
        begin, again = endless.image(machine, word, pair)
        length = 20000 + 2 * 108 * 58
        image, _ = sections.read_string(sections.steps_of(machine), word, digits(pair, length))
        self.assertEqual(digits((begin, again), length), image)
        self.assertGreater(len(begin), 19000)
        self.assertRaises(TooLarge, endless.image, machine, word, ("2" * 49, "0" + "2" * 57))
        self.assertRaises(TooLarge, endless.way, machine, word, ("2" * 49, "0" + "2" * 57), 1)

    def test_undone_words_and_products(self):
        rng = random.Random(124)
        for machine, word, pair in some_pairs(124, 4, 4, 4):
            begin, again = endless.image(machine, word, pair)
            if len(begin) <= 60 and len(again) <= 60:
                back = endless.image(machine, support.undone_slowly(word), (begin, again))
                self.assertEqual(back, endless.short_form(machine[0], pair))
                other = support.some_word(rng, machine, 3)
                self.assertEqual(endless.image(machine, word + other, pair),
                                 endless.image(machine, other, (begin, again)))

    def test_equal_words_and_others(self):
        for pair in (("", "0"), ("1", "0"), ("", "110"), ("01", "1")):
            self.assertEqual(endless.image(FOUR, "bc", pair), endless.image(FOUR, "d", pair))
            self.assertEqual(endless.image(FIRST, "abb", pair), endless.image(FIRST, "a", pair))
        self.assertNotEqual(endless.image(FIRST, "aa", ("00", "0")), endless.image(FIRST, "", ("00", "0")))
        self.assertNotEqual(endless.image(FIRST, "aaaa", ("000", "0")), endless.image(FIRST, "", ("000", "0")))

    def test_keeps(self):
        self.assertIs(endless.keeps(FIRST, "b", ("", "01")), True)
        self.assertIs(endless.keeps(FIRST, "a", ("", "01")), False)
        self.assertIs(endless.keeps(FIRST, "aA", ("01", "0101")), True)
        self.assertIs(endless.keeps(FOUR, "b", ("", "1")), True)
        self.assertIs(endless.keeps(FOUR, "b", ("01", "1")), False)
        answers = {True: 0, False: 0}
        for machine, word, pair in some_pairs(125, 4, 3, 3):
            kept = endless.keeps(machine, word, pair)
            self.assertIs(kept, endless.image(machine, word, pair) == endless.short_form(machine[0], pair))
            answers[kept] += 1
        self.assertGreater(min(answers.values()), 10)

    def test_short_words(self):
        """[125]."""
        rng = random.Random(127)
        words = (("a", FOUR), ("A", FOUR), ("b", FIRST),
                 ("ab", (3, (((1, 2), (2, 2), (0, 2)), ((0, 0), (2, 0), (1, 2)), ((0, 2), (1, 2), (2, 2))))))
        for word, machine in words:
            self.assertIsNotNone(wordmachine.depth(machine, word))
            for _ in range(20):
                pair = some_pair(rng, machine[0], 5)
                self.assertIs(endless.are_level_alike(machine[0], pair, endless.image(machine, word, pair)), True)


class Ways(unittest.TestCase):
    """[124]."""

    def test_the_example(self):
        """[127]."""
        self.assertIsNone(endless.round_of(FIRST, "a", ("", "0"), 100))
        found = endless.way(FIRST, "a", ("", "0"), 100)
        self.assertEqual(len(found), 101)
        self.assertEqual(len(set(found)), 101)
        self.assertEqual(found[:4], [("", "0"), ("1", "0"), ("01", "0"), ("11", "0")])

    def test_ways(self):
        self.assertEqual(endless.way(FIRST, "a", ("01", "0101"), 0), [("", "01")])
        self.assertEqual(endless.way(FOUR, "a", ("", "0"), 3), [("", "0"), ("1", "0"), ("", "0"), ("1", "0")])
        for machine, word, pair in some_pairs(128, 3, 2, 3):
            expected = [endless.short_form(machine[0], pair)]
            for _ in range(5):
                if max(len(expected[-1][0]), len(expected[-1][1])) <= 60:
                    expected.append(endless.image(machine, word, expected[-1]))
            found = endless.way(machine, word, pair, len(expected) - 1)
            self.assertEqual(found, expected)

    def test_members_that_are_told_by_long_strings(self):
        for pair in (("", "0"), ("0110", "001")):
            found = endless.way(support.FREE, "ab", pair, 5)
            self.assertGreater(max([len(again) for _, again in found]), 300)
            expected = digits(pair, 400)
            for member in found:
                self.assertEqual(digits(member, 400), expected)
                expected = support.image_by_word(support.FREE, "ab", expected)

    def test_rounds(self):
        self.assertEqual(endless.round_of(FIRST, "b", ("", "01"), 1), 1)
        self.assertEqual(endless.round_of(FOUR, "ab", ("", "1"), 100), 8)
        self.assertEqual(endless.round_of(FOUR, "ab", ("", "0"), 16), 16)
        self.assertIsNone(endless.round_of(FOUR, "ab", ("", "0"), 15))
        found = {}
        for word in ("a", "b", "ab", "ac", "ad", "abac", "acad"):
            for pair in (("", "0"), ("", "1"), ("", "01"), ("0", "1"), ("11", "0"), ("", "110")):
                many = endless.round_of(FOUR, word, pair, 100)
                found[many] = True
                way = endless.way(FOUR, word, pair, many)
                self.assertEqual(way[-1], way[0])
                self.assertEqual(len(set(way)), many)
                if many > 1:
                    self.assertIsNone(endless.round_of(FOUR, word, pair, many - 1))
                for length in range(1, 7):
                    self.assertEqual(many % orders.round_of(FOUR, word, digits(pair, length))[0], 0)
                agains = [digits(("", again), 2 * len(way[0][1])) for _, again in way]
                self.assertTrue(all([again[:len(way[0][1])] in way[0][1] * 3 for again in agains
                                     if len(again) == len(way[0][1])]))
        self.assertGreaterEqual(len(found), 4)

    def test_numbers(self):
        for steps in (-1, 101, 1000, GREAT, -GREAT):
            self.assertRaises(BadNumber, endless.way, FIRST, "b", ("", "0"), steps)
        for most in (0, -1, 101, 1000, GREAT, -GREAT):
            self.assertRaises(BadNumber, endless.round_of, FIRST, "b", ("", "0"), most)
        self.assertEqual(endless.round_of(FIRST, "b", ("", "0"), 100), 1)
        self.assertEqual(len(endless.way(FIRST, "b", ("", "0"), 100)), 101)


class Errors(unittest.TestCase):
    CALLS = ((endless.image, ()), (endless.keeps, ()), (endless.way, (-1,)), (endless.round_of, (0,)))

    def test_their_order(self):
        for function, values in self.CALLS:
            for machine in tuple(WRONG.values()) + (NINE,):
                self.assertRaises(NotMachine, function, machine, "z", ("", ""), *values)
            for word in NO_WORDS:
                self.assertRaises(NotWord, function, FIRST, word, ("", ""), *values)
            for pair in NO_PAIRS:
                self.assertRaises(NotEndless, function, FIRST, "a", pair, *values)
            self.assertRaises(NotEndless, function, support.THREE_DIGITS, "a", ("3", "0"), *values)


if __name__ == "__main__":
    unittest.main()
