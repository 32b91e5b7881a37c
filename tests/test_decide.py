import copy
import random
import unittest
from unittest import mock

import support
from leafturner import apart, closed, decide, orders, sections
from leafturner.errors import NotMachine, NotWord, TooLarge
from test_machines import WRONG
from test_words import NINE, NO_WORDS

FIRST = support.FIRST
FOUR = support.FOUR_STATES
FREE = support.FREE
GREAT = support.GREAT

# a turns the digits, and goes on at one of them in b, which exchanges two: a has the order 6; c rests.
SIX = (3, (((1, 2), (2, 2), (0, 1)), ((1, 2), (0, 2), (2, 2)), ((0, 2), (1, 2), (2, 2))))
TWO_KINDS = {"equal": 0, "apart": 0}


def is_answer_slowly(machine, one, other, answer):
    if answer[0] == "apart":
        good = all([digit in "0123"[:machine[0]] for digit in answer[1]])
        return good and support.image_by_word(machine, one, answer[1]) != support.image_by_word(machine, other, answer[1])
    return support.cut_slowly(one + support.undone_slowly(other)) in answer[1] and is_closed_slowly(machine, answer[1])


def is_closed_slowly(machine, words):
    for word in words:
        if any([letter not in support.letters_of(machine) for letter in word]) or support.cut_slowly(word) != word:
            return False
        for x in range(machine[0]):
            section = support.cut_slowly(support.section_slowly(machine, word, str(x)))
            if support.image_by_word(machine, word, str(x)) != str(x) or section not in words:
                return False
    return len(set(words)) == len(words)


def image_often(machine, word, string, times):
    for _ in range(times):
        string = support.image_by_word(machine, word, string)
    return string


def some_cases(seed, count):
    rng = random.Random(seed)
    for machine in support.MACHINES + tuple(support.some_machines(seed, count, 3)):
        for _ in range(4):
            yield machine, support.some_word(rng, machine, 3), support.some_word(rng, machine, 3)


class TwoWords(unittest.TestCase):
    """[240] and [241]."""

    def test_known_answers(self):
        self.assertEqual(decide.decide(FIRST, "b", ""), ("equal", ["b"]))
        self.assertEqual(decide.decide(FIRST, "ab", "a"), ("equal", ["abA", "b"]))
        self.assertEqual(decide.decide(FIRST, "a", "a"), ("equal", [""]))
        self.assertEqual(decide.decide(FIRST, "a", "A"), ("apart", "00"))
        self.assertEqual(decide.decide(FIRST, "a", ""), ("apart", "0"))

    def test_closed_lists_and_first_strings(self):
        kinds = dict(TWO_KINDS)
        for machine, one, other in some_cases(240, 30):
            answer = decide.decide(machine, one, other)
            found, rests = support.closed_slowly(machine, one + support.undone_slowly(other))
            if rests:
                self.assertEqual(answer, ("equal", found))
            else:
                self.assertEqual(answer, ("apart", apart.first_string(machine, one, other)))
            self.assertIs(is_answer_slowly(machine, one, other, answer), True)
            self.assertIs(decide.is_answer(machine, one, other, answer), True)
            self.assertEqual(decide.shows(answer) == "equal", closed.are_equal(machine, one, other))
            kinds[answer[0]] += 1
        self.assertGreater(min(kinds.values()), 25)

    def test_changed_lists(self):
        for machine, one, other in some_cases(2400, 20):
            kind, told = decide.decide(machine, one, other)
            if kind == "equal":
                rng = random.Random(len(told))
                changed = [told[:-1], told[1:], told + [told[0]], told + ["aA"], told + ["a"], told + ["z"],
                           told + ["1"], told + [" "], told[::-1], told + ["" if "" not in told else "a"], []]
                changed.append(rng.sample(told, len(told)))
                for words in changed:
                    answer = ("equal", words)
                    self.assertIs(decide.is_answer(machine, one, other, answer),
                                  is_answer_slowly(machine, one, other, answer), answer)

    def test_one_thing_changed(self):
        good = ("equal", ["abA", "b"])
        self.assertIs(decide.is_answer(FIRST, "ab", "a", good), True)
        for words in (["abA"], ["b"], ["b", "abA", "b"], ["abA", "b", "b"], ["abA", "b", "bA"], ["abA", "b", "a"],
                      ["abA", "b", "aA"], ["abA", "b", "x"], ["abA", "b", "c"], [], [""], ["ab"], ["abA", "bB"]):
            self.assertIs(decide.is_answer(FIRST, "ab", "a", ("equal", words)), False, words)
        for words in (["b", "abA"], ["abA", "b", ""], ["bb", "b", "abA"], ["abA", "b", "B"]):
            self.assertIs(decide.is_answer(FIRST, "ab", "a", ("equal", words)), True, words)
        self.assertIs(decide.is_answer(FIRST, "ab", "aa", good), False)
        self.assertIs(decide.is_answer(FIRST, "a", "ab", good), False)
        self.assertIs(decide.is_answer(FIRST, "a", "ab", ("equal", ["aBA", "B"])), True)

    def test_strings(self):
        for string in ("00", "01", "10", "000", "0" * 61, "1" * 5000):
            self.assertIs(decide.is_answer(FIRST, "a", "A", ("apart", string)), True, string[:5])
        for string in ("", "0", "1", "2", "00x", "002", "-", " ", "00\n", "\u0660\u0660", "02"):
            self.assertIs(decide.is_answer(FIRST, "a", "A", ("apart", string)), False, string)
        for string in ("", "0", "010101", "1" * 100):
            self.assertIs(decide.is_answer(FIRST, "ab", "a", ("apart", string)), False)
        rng = random.Random(241)
        for machine, one, other in some_cases(241, 10):
            for string in [support.some_string(rng, machine[0], 4), "3", "1"]:
                answer = ("apart", string)
                self.assertIs(decide.is_answer(machine, one, other, answer),
                              is_answer_slowly(machine, one, other, answer))

    def test_both_kinds_never_show_for_the_same_words(self):
        for machine, one, other in some_cases(2410, 10):
            kind, told = decide.decide(machine, one, other)
            if kind == "equal":
                for string in support.strings_up_to(machine[0], 3):
                    self.assertIs(decide.is_answer(machine, one, other, ("apart", string)), False)
            else:
                found, _ = support.closed_slowly(machine, one + support.undone_slowly(other))
                self.assertIs(decide.is_answer(machine, one, other, ("equal", found)), False)

    def test_long_words(self):
        kind, words = decide.decide(FIRST, "b" * 60, "B" * 60)
        self.assertEqual((kind, words), ("equal", ["b" * 120]))
        self.assertIs(decide.is_answer(FIRST, "b" * 60, "B" * 60, (kind, words)), True)
        self.assertEqual(decide.decide(FIRST, "a" * 60, "A" * 60), ("apart", "0000"))
        self.assertIs(decide.is_answer(FIRST, "a" * 60, "A" * 60, ("apart", "0000")), True)
        self.assertEqual(decide.decide(FIRST, "ab" * 30, "a" * 30)[0], "equal")

    def test_too_large(self):
        machine, word = support.AT_LIMIT
        kind, words = decide.decide(machine, word, "")
        self.assertEqual((kind, len(words)), ("equal", 4000))
        self.assertIs(decide.is_answer(machine, word, "", (kind, words)), True)
        self.assertIs(decide.is_answer(machine, word, "", (kind, words[:-1])), False)
        machine, word = support.OVER_LIMIT
        self.assertRaises(TooLarge, decide.decide, machine, word, "")
        # What is checked is bounded by the answer alone.
        self.assertIs(decide.is_answer(machine, word, "", ("equal", [word])), False)
        self.assertIs(decide.is_answer(machine, word, "", ("apart", "01" * 30)), False)
        self.assertEqual(decide.decide(FREE, "abc" * 20, "bca" * 20)[0], "apart")

    def test_errors(self):
        for word in NO_WORDS:
            self.assertRaises(NotWord, decide.decide, FIRST, word, "a")
            self.assertRaises(NotWord, decide.decide, FIRST, "a", word)
            self.assertRaises(NotWord, decide.is_answer, FIRST, word, "a", ("apart", "x"))
            self.assertRaises(NotWord, decide.is_answer, FIRST, "a", word, ("equal", []))
        for machine in tuple(WRONG.values()) + (NINE,):
            self.assertRaises(NotMachine, decide.decide, machine, "z", "")
            self.assertRaises(NotMachine, decide.is_answer, machine, "z", "", ("apart", "x"))


class Orders(unittest.TestCase):
    """[242] and [243]."""

    def test_known_answers(self):
        self.assertEqual(decide.decide_order(FIRST, "b"), ("finite", 1, ["b"], []))
        self.assertEqual(decide.decide_order(FIRST, ""), ("finite", 1, [""], []))
        self.assertEqual(decide.decide_order(FIRST, "aA"), ("finite", 1, [""], []))
        self.assertEqual(decide.decide_order(FREE, "a"), ("open",))
        kind, witness = decide.decide_order(FIRST, "a")
        self.assertEqual(kind, "endless")
        self.assertIs(orders.is_witness(FIRST, "a", witness), True)

    def test_two_prime_divisors(self):
        kind, n, words, strings = decide.decide_order(SIX, "a")
        self.assertEqual((kind, n), ("finite", 6))
        self.assertEqual(words[0], "a" * 6)
        # The cube moves a first digit only below, and the square moves it at once.
        self.assertEqual(strings, ["00", "0"])
        self.assertIs(decide.is_order_answer(SIX, "a", (kind, n, words, strings)), True)

    def test_three_kinds(self):
        rng = random.Random(242)
        kinds = {"finite": 0, "endless": 0, "open": 0}
        for machine in support.MACHINES + (SIX,) + tuple(support.some_machines(242, 20, 3)):
            for _ in range(4):
                word = support.some_word(rng, machine, 3)
                try:
                    told = orders.order(machine, word)
                except TooLarge:
                    self.assertRaises(TooLarge, decide.decide_order, machine, word)
                    continue
                answer = decide.decide_order(machine, word)
                self.assertEqual(answer[0], told[0])
                self.assertIs(decide.is_order_answer(machine, word, answer), True)
                self.assertEqual(decide.shows(answer), told[0])
                if answer[0] == "finite":
                    self.check_finite(machine, word, answer, told[1])
                elif answer[0] == "endless":
                    self.assertIs(orders.is_witness(machine, word, answer[1]), True)
                kinds[answer[0]] += 1
        self.assertGreater(min(kinds.values()), 5)

    def check_finite(self, machine, word, answer, order):
        _, n, words, strings = answer
        self.assertEqual(n, order)
        found, rests = support.closed_slowly(machine, word * n)
        self.assertIs(rests, True)
        self.assertEqual(words, found)
        primes = [p for p in range(2, n + 1) if n % p == 0 and all([p % q for q in range(2, p)])]
        self.assertEqual(len(strings), len(primes))
        for p, string in zip(primes, strings):
            self.assertNotEqual(image_often(machine, word, string, n // p), string)
            self.assertLessEqual(len(string), 60)

    def test_an_order_of_64_and_a_greater_one(self):
        rows = [((1, state + 1), (0, 7)) for state in range(6)] + [((1, 7), (0, 7)), ((0, 7), (1, 7))]
        machine = (2, tuple(rows))
        kind, n, words, strings = decide.decide_order(machine, "b")
        self.assertEqual((kind, n, len(strings)), ("finite", 64, 1))
        self.assertIs(decide.is_order_answer(machine, "b", (kind, n, words, strings)), True)
        self.assertEqual(decide.decide_order(machine, "a"), ("open",))
        # The order 128 is shown all the same, if someone gives its answer.
        words, _ = support.closed_slowly(machine, "a" * 128)
        answer = ("finite", 128, words, ["0000000"])
        self.assertIs(decide.is_order_answer(machine, "a", answer), True)
        self.assertIs(decide.is_order_answer(machine, "a", ("finite", 128, words, ["000000"])), False)

    def test_one_thing_changed(self):
        _, n, words, strings = decide.decide_order(SIX, "a")
        wrong = [("finite", n, words, strings[:1]), ("finite", n, words, []), ("finite", n, words, strings + ["0"]),
                 ("finite", n, words, strings[::-1]), ("finite", n, words, ["00", "22x"]),
                 ("finite", n, words, ["0", "0"]), ("finite", n, words, ["", "0"]), ("finite", n, words, ["00", ""]),
                 ("finite", n, words, ["00", "3"]), ("finite", n, words, ["00", "x"]),
                 ("finite", n, words, ["00", "\u0660"]), ("finite", n, words, ["0" * 61, "0"]),
                 ("finite", n, words, ["00", "0" * 61]), ("finite", n, words[1:], strings),
                 ("finite", n, words[:-1], strings), ("finite", n, words + [words[0]], strings),
                 ("finite", n, words + ["a"], strings), ("finite", n, [], strings),
                 ("finite", n, words + ["x"], strings), ("finite", n, words + ["aA"], strings)]
        for other in (1, 2, 3, 4, 5, 7, 12, 18, 199, 200, 0, -1, -6, -GREAT):
            wrong.append(("finite", other, words, strings))
        for answer in wrong:
            self.assertIs(decide.is_order_answer(SIX, "a", answer), False, answer)
        for good in (["00", "00"], ["0" * 60, "2"], ["01", "0" * 60]):
            self.assertIs(decide.is_order_answer(SIX, "a", ("finite", n, words, good)), True, good)
        self.assertIs(decide.is_order_answer(SIX, "a", ("finite", n, words[::-1], strings)), True)
        for word in ("aa", "b", "", "A" * 5):
            self.assertIs(decide.is_order_answer(SIX, word, ("finite", n, words, strings)), False)
        # The undone word has the same order, but its power is another word.
        self.assertIs(decide.is_order_answer(SIX, "A", ("finite", n, words, strings)), False)

    def test_n_of_0(self):
        for machine, word in ((FIRST, "a"), (FIRST, "b"), (SIX, "a"), (FIRST, "")):
            for n in (0, -1):
                for strings in ([], ["0"]):
                    self.assertIs(decide.is_order_answer(machine, word, ("finite", n, [""], strings)), False)

    def test_multiples_of_the_order(self):
        for n in (12, 18, 60, 198):
            words, rests = support.closed_slowly(SIX, "a" * n)
            self.assertIs(rests, True)
            primes = [p for p in range(2, n + 1) if n % p == 0 and all([p % q for q in range(2, p)])]
            for string in support.strings_up_to(3, 2):
                self.assertIs(decide.is_order_answer(SIX, "a", ("finite", n, words, [string] * len(primes))), False)

    def test_the_order_1(self):
        self.assertIs(decide.is_order_answer(FIRST, "b", ("finite", 1, ["b"], [])), True)
        self.assertIs(decide.is_order_answer(FIRST, "bB", ("finite", 1, [""], [])), True)
        self.assertIs(decide.is_order_answer(FIRST, "b", ("finite", 1, ["b"], ["0"])), False)
        self.assertIs(decide.is_order_answer(FIRST, "a", ("finite", 1, ["b"], [])), False)
        self.assertIs(decide.is_order_answer(FIRST, "a", ("finite", 1, ["a"], [])), False)

    def test_n_above_200(self):
        self.assertIs(decide.is_order_answer(FIRST, "b", ("finite", 200, ["b" * 200], ["0", "0"])), False)
        for n in (201, 1000, GREAT):
            for words in (["b"], [], ["b" * 201]):
                self.assertRaises(TooLarge, decide.is_order_answer, FIRST, "b", ("finite", n, words, []))
        # No power has too many letters to be checked.
        words, _ = support.closed_slowly(SIX, "abA" * 2)
        self.assertIs(decide.is_order_answer(SIX, "abA", ("finite", 2, words, ["0"])), True)
        self.assertIs(decide.is_order_answer(FIRST, "b" * 60, ("finite", 200, ["b" * 12000], [])), False)
        self.assertIs(decide.is_order_answer(FIRST, "ba" * 30, ("finite", 200, ["b"], ["0", "0"])), False)

    def test_witnesses(self):
        for witness in (("0", 2, 1, ""), ("1", 2, 1, ""), ("0", 2, 1, "a"), ("01", 4, 1, "Ab"), ("110", 8, 1, "aa")):
            self.assertIs(decide.is_order_answer(FIRST, "a", ("endless", witness)), True)
        for witness in (("2", 2, 1, ""), ("0", 3, 1, ""), ("0", 2, 2, ""), ("0", 2, -1, ""), ("0", 0, 1, ""),
                        ("0", -2, 1, ""), ("0", 2, 1, "z"), ("", 1, 1, ""), ("0", GREAT, 1, ""),
                        ("0", 2, GREAT, "")):
            self.assertIs(decide.is_order_answer(FIRST, "a", ("endless", witness)), False, witness[0])
        self.assertIs(decide.is_order_answer(FIRST, "b", ("endless", ("0", 2, 1, ""))), False)

    def test_open(self):
        for word in ("", "a", "b"):
            self.assertIs(decide.is_order_answer(FIRST, word, ("open",)), True)

    def test_answers_do_not_contradict_each_other(self):
        for word in ("b", "", "a"):
            finite = [n for n in range(1, 20) if decide.is_order_answer(
                FIRST, word, ("finite", n, support.closed_slowly(FIRST, word * n)[0], []))]
            self.assertEqual(finite, [] if word == "a" else [1])

    def test_strings_with_too_many_digits(self):
        with mock.patch.object(decide, "first_moved", lambda tidy, word: "0" * 60):
            self.assertEqual(decide.decide_order(SIX, "a")[3], ["0" * 60, "0" * 60])
        with mock.patch.object(decide, "first_moved", lambda tidy, word: "0" * 61):
            self.assertRaises(TooLarge, decide.decide_order, SIX, "a")

    def test_errors(self):
        for word in NO_WORDS:
            self.assertRaises(NotWord, decide.decide_order, FIRST, word)
            self.assertRaises(NotWord, decide.is_order_answer, FIRST, word, ("finite", 201, [], []))
        for machine in tuple(WRONG.values()) + (NINE,):
            self.assertRaises(NotMachine, decide.decide_order, machine, "z")
            self.assertRaises(NotMachine, decide.is_order_answer, machine, "z", ("finite", 201, [], []))

    def test_shows(self):
        for answer in (("equal", []), ("apart", "0"), ("finite", 1, [""], []),
                       ("endless", ("0", 2, 1, "")), ("open",)):
            self.assertEqual(decide.shows(answer), answer[0])


class RestLevels(unittest.TestCase):
    """[244] and [42]."""

    def test_known_levels(self):
        self.assertIsNone(decide.rest_level(FIRST, ""))
        self.assertIsNone(decide.rest_level(FIRST, "abAb"))
        for exponent, level in ((1, 0), (2, 1), (3, 0), (4, 2), (6, 1), (8, 3), (32, 5), (48, 4)):
            self.assertEqual(decide.rest_level(FIRST, "a" * exponent), level)
            self.assertEqual(decide.rest_level(FIRST, "A" * exponent), level)

    def test_against_keeping_all_strings(self):
        found = {}
        for machine, word, _ in some_cases(244, 25):
            level = decide.rest_level(machine, word)
            kept = [n for n in range(5) if all([support.image_by_word(machine, word, string) == string
                                                for string in support.strings_of_length(machine[0], n)])]
            if level is None:
                self.assertIs(closed.is_at_rest(machine, word), True)
                self.assertEqual(kept, [0, 1, 2, 3, 4])
            else:
                self.assertEqual(kept, list(range(min(level, 4) + 1)))
                self.assertEqual(len(apart.first_string(machine, word, "")), level + 1)
                self.assertIs(sections.keeps_length(machine, word, level), True)
            found[level] = True
        self.assertGreater(len(found), 2)

    def test_products_and_conjugates(self):
        for machine, one, other in some_cases(2440, 25):
            levels = [decide.rest_level(machine, word) for word in (one, other, one + other)]
            if None not in levels:
                self.assertGreaterEqual(levels[2], min(levels[:2]))
                if levels[0] != levels[1]:
                    self.assertEqual(levels[2], min(levels[:2]))
            conjugate = other + one + support.undone_slowly(other)
            self.assertEqual(decide.rest_level(machine, conjugate), levels[0])

    def test_errors(self):
        for word in NO_WORDS:
            self.assertRaises(NotWord, decide.rest_level, FIRST, word)
        for machine in tuple(WRONG.values()) + (NINE,):
            self.assertRaises(NotMachine, decide.rest_level, machine, "z")


class Sharing(unittest.TestCase):
    """[0]."""

    def test_answers_are_not_shared(self):
        decide.decide(FIRST, "b", "")[1].append("x")
        self.assertEqual(decide.decide(FIRST, "b", ""), ("equal", ["b"]))
        found = decide.decide_order(SIX, "a")
        kept = copy.deepcopy(found)
        found[2].append("x")
        found[3].append("x")
        self.assertEqual(decide.decide_order(SIX, "a"), kept)

    def test_arguments_are_unchanged(self):
        answer = ("equal", ["abA", "b"])
        decide.is_answer(FIRST, "ab", "a", answer)
        self.assertEqual(answer, ("equal", ["abA", "b"]))
        answer = decide.decide_order(SIX, "a")
        kept = copy.deepcopy(answer)
        decide.is_order_answer(SIX, "a", answer)
        self.assertEqual(answer, kept)


if __name__ == "__main__":
    unittest.main()
