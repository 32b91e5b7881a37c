import ast
import copy
import pathlib
import random
import unittest

import support
from leafturner import certificates, closed, decide, orders
from leafturner.errors import NotMachine, NotWord, TooLarge
from test_decide import SIX, is_closed_slowly
from test_machines import WRONG
from test_orders import THREEFOLD, TO_AND_FRO, is_witness_slowly, round_slowly
from test_words import NINE, NO_WORDS

FIRST = support.FIRST
FOUR = support.FOUR_STATES
FREE = support.FREE
GREAT = support.GREAT
NO_MACHINES = tuple(WRONG.values()) + (NINE,)

# a adds 1, going on in states that rest; what has to be at rest, for the witness ("0", 2, 1, h) with the word h, has
# a closed list with 4000 words, and with 4001.
ADDING_AT_LIMIT = ((2, (((1, 2), (0, 0)), ((0, 3), (1, 2)), ((0, 1), (1, 4)), ((0, 7), (1, 5)), ((0, 7), (1, 6)),
                        ((0, 1), (1, 3)), ((0, 6), (1, 2)), ((0, 2), (1, 1)))), "fb")
ADDING_OVER_LIMIT = ((2, (((1, 3), (0, 0)), ((0, 4), (1, 1)), ((0, 3), (1, 5)), ((0, 6), (1, 1)), ((0, 5), (1, 5)),
                          ((0, 2), (1, 4)), ((0, 4), (1, 2)), ((0, 1), (1, 5)))), "fb")
# a adds 1 to numbers in base 3, lowest digit first; b rests.
BASE_THREE = (3, (((1, 1), (2, 1), (0, 0)), ((0, 1), (1, 1), (2, 1))))


def some_cases(seed, count):
    rng = random.Random(seed)
    for machine in support.MACHINES + (SIX,) + tuple(support.some_machines(seed, count, 3)):
        for _ in range(4):
            yield machine, support.some_word(rng, machine, 3), support.some_word(rng, machine, 3)


class Trust(unittest.TestCase):
    """[260]."""

    def test_the_errors_alone_are_imported(self):
        path = pathlib.Path(certificates.__file__)
        imports = [node for node in ast.walk(ast.parse(path.read_text()))
                   if isinstance(node, (ast.Import, ast.ImportFrom))]
        self.assertEqual([(node.module, node.level) for node in imports], [("leafturner.errors", 0)])

    def test_own_reading(self):
        """Machines, cutting and digits are read as elsewhere, but not by the functions from there."""
        rng = random.Random(260)
        for machine in support.MACHINES + tuple(support.some_machines(260, 20, 8)):
            moves = certificates.moves_of(machine)
            word = support.some_word(rng, machine, 12)
            self.assertEqual(certificates.cut(word), support.cut_slowly(word))
            self.assertEqual(certificates.undone(word), support.undone_slowly(word))
            for _ in range(5):
                string = support.some_string(rng, machine[0], 6)
                self.assertEqual(certificates.follow(moves, word, string),
                                 (support.image_by_word(machine, word, string),
                                  support.section_slowly(machine, word, string)))
        for machine in NO_MACHINES:
            self.assertIs(certificates.is_good_machine(machine), False)
        for machine in (support.cycle(4, 8), support.cycle(2, 1)) + support.MACHINES:
            self.assertIs(certificates.is_good_machine(machine), True)
        for row in (((0, GREAT), (1, 0)), ((0, -GREAT), (1, 0)), ((GREAT, 0), (0, 0)), ((-GREAT, 0), (1, 0))):
            self.assertIs(certificates.is_good_machine((2, (row,))), False)
        self.assertIs(certificates.is_good_machine((GREAT, (((0, 0), (1, 0)),))), False)


class Lists(unittest.TestCase):
    """[261]."""

    def test_known_lists(self):
        for words in ([], [""], ["b"], ["B", "b"], ["abA", "b"], ["b", "abA"], ["b" * 2000], ["", "b", "bb"]):
            self.assertIs(certificates.is_closed_list(FIRST, words), True, words)
        for words in (["abA"], ["a"], ["b", "a"], ["b", "b"], ["abA", "b", "abA"], ["bB"], ["", "aA"], ["c"], ["x"],
                      ["b", "1"], [" "], ["b", "-"], ["\u00e9"], ["b" * 2001], ["b", "b" * 2001], ["%"]):
            self.assertIs(certificates.is_closed_list(FIRST, words), False, words)
        self.assertIs(certificates.is_closed_list(FOUR, ["aa", ""]), False)
        self.assertIs(certificates.is_closed_list(FOUR, ["aa", "ee"]), True)

    def test_changed_lists(self):
        answers = {True: 0, False: 0}
        for machine, one, other in some_cases(261, 25):
            found, rests = support.closed_slowly(machine, one + support.undone_slowly(other))
            self.assertIs(certificates.is_closed_list(machine, found), rests)
            for words in (found[:-1], found[1:], found + [found[0]], found + ["aA"], found + ["z"], found[::-1],
                          found + ["a"], found + ["" if "" not in found else "A"]):
                expected = is_closed_slowly(machine, words)
                self.assertIs(certificates.is_closed_list(machine, words), expected)
                self.assertIs(certificates.shows_equal(machine, one, other, words), expected and found[0] in words)
                answers[expected] += 1
        self.assertGreater(min(answers.values()), 20)

    def test_equal_words(self):
        self.assertIs(certificates.shows_equal(FIRST, "ab", "a", ["abA", "b"]), True)
        self.assertIs(certificates.shows_equal(FIRST, "ab", "a", ["b", "", "abA"]), True)
        for words in (["b"], ["abA"], [], [""], ["abA", "b", "b"], ["abA", "b", "a"], ["ab", "b"], ["abA", "b", "bB"],
                      ["abA", "b", "x"], ["abA", "b", "b" * 2001]):
            self.assertIs(certificates.shows_equal(FIRST, "ab", "a", words), False, words)
        # A closed list without the word does not show it, whatever it has.
        self.assertIs(certificates.shows_equal(FIRST, "b", "", [""]), False)
        self.assertIs(certificates.shows_equal(FIRST, "bB", "", [""]), True)
        self.assertIs(certificates.shows_equal(FIRST, "a", "", ["a"]), False)
        self.assertIs(certificates.shows_equal(FIRST, "b" * 60, "B" * 60, ["b" * 120]), True)
        self.assertIs(certificates.shows_equal(FIRST, "ab", "a", ["abA", "b", "b" * 2000]), True)

    def test_strings(self):
        for string in ("00", "01", "000", "0" * 61, "1" * 3000):
            self.assertIs(certificates.shows_apart(FIRST, "a", "A", string), True)
        for string in ("", "0", "1", "2", "00x", "20", "-", " ", "00\n", "\u0660\u0660", "0 0"):
            self.assertIs(certificates.shows_apart(FIRST, "a", "A", string), False, string)
            self.assertIs(certificates.shows_apart(FIRST, "ab", "a", string), False, string)
        rng = random.Random(2610)
        answers = {True: 0, False: 0}
        for machine, one, other in some_cases(2611, 20):
            for _ in range(3):
                string = support.some_string(rng, machine[0], 4)
                expected = support.image_by_word(machine, one, string) != support.image_by_word(machine, other, string)
                self.assertIs(certificates.shows_apart(machine, one, other, string), expected)
                answers[expected] += 1
            self.assertIs(certificates.shows_apart(machine, one, other, string + str(machine[0])), False)
        self.assertGreater(min(answers.values()), 30)

    def test_errors(self):
        for machine in NO_MACHINES:
            self.assertRaises(NotMachine, certificates.is_closed_list, machine, ["z"])
            self.assertRaises(NotMachine, certificates.shows_equal, machine, "z", "", ["z"])
            self.assertRaises(NotMachine, certificates.shows_apart, machine, "z", "", "x")
            self.assertRaises(NotMachine, certificates.shown, machine, "z", "", ("open",))
        for word in NO_WORDS:
            self.assertRaises(NotWord, certificates.shows_equal, FIRST, word, "a", [])
            self.assertRaises(NotWord, certificates.shows_equal, FIRST, "a", word, [])
            self.assertRaises(NotWord, certificates.shows_apart, FIRST, word, "a", "x")
            self.assertRaises(NotWord, certificates.shows_apart, FIRST, "a", word, "x")
            self.assertRaises(NotWord, certificates.shown, FIRST, word, "a", ("open",))
            self.assertRaises(NotWord, certificates.shown, FIRST, "a", word, ("apart", "x"))
        self.assertRaises(NotWord, certificates.shows_equal, FIRST, "a" * 61, "", [])


class Shown(unittest.TestCase):
    """[262] and [266]."""

    def test_the_examples(self):
        self.assertEqual(certificates.shown(FIRST, "b", "", ("equal", ["b"])), "equal")
        self.assertEqual(certificates.shown(FIRST, "b", "", ("equal", [""])), "none")
        self.assertEqual(certificates.order_shown(FIRST, "a", ("endless", ("0", 2, 1, ""))), "endless")

    def test_answers_of_the_program(self):
        kinds = {"equal": 0, "apart": 0}
        for machine, one, other in some_cases(262, 25):
            answer = decide.decide(machine, one, other)
            self.assertEqual(certificates.shown(machine, one, other, answer), answer[0])
            kinds[answer[0]] += 1
        self.assertGreater(min(kinds.values()), 20)

    def test_answers_for_other_words(self):
        counts = {}
        for machine, one, other in some_cases(2620, 25):
            answer = decide.decide(machine, one, other)
            for further in (("a", ""), ("A", "a"), ("aa", "a"), (other, one)):
                shown = certificates.shown(machine, *further, answer)
                expected = decide.is_answer(machine, *further, answer)
                self.assertEqual(shown, answer[0] if expected else "none")
                self.assertIn(shown, ("none", "equal" if closed.are_equal(machine, *further) else "apart"))
                counts[shown] = counts.get(shown, 0) + 1
        self.assertEqual(len(counts), 3)

    def test_the_other_kind(self):
        for answer in (("finite", 1, ["b"], []), ("endless", ("0", 2, 1, "")), ("open",), ("equal", "b"), ("equal", ""),
                       ("apart", ["00"]), ("apart", ["0", "0"]), ("apart", []), ("none", ["b"]), ("none", "00"),
                       ("equal", "00"), ("open", "00"), ("open", ["b"]), ("equal",), ("apart",),
                       ("equal", ["b"], []), ("apart", "00", "00")):
            for one, other in (("b", ""), ("a", "A"), ("", "")):
                self.assertEqual(certificates.shown(FIRST, one, other, answer), "none", answer)

    def test_changed_answers(self):
        for words in (["b"], ["abA"], [], ["abA", "b", "b"], ["abA", "b", "a"]):
            self.assertEqual(certificates.shown(FIRST, "ab", "a", ("equal", words)), "none")
        for string in ("", "0", "2", "0x"):
            self.assertEqual(certificates.shown(FIRST, "a", "A", ("apart", string)), "none")
        self.assertEqual(certificates.shown(FIRST, "a", "A", ("apart", "0" * 100)), "apart")

    def test_never_both_kinds(self):
        for machine, one, other in some_cases(2621, 10):
            found, _ = support.closed_slowly(machine, one + support.undone_slowly(other))
            shown = {certificates.shown(machine, one, other, ("equal", found))}
            for string in support.strings_up_to(machine[0], 3):
                shown.add(certificates.shown(machine, one, other, ("apart", string)))
            self.assertFalse({"equal", "apart"} <= shown)


class FiniteOrders(unittest.TestCase):
    """[263]."""

    def accepted(self, machine, word, n, words, strings):
        found = certificates.is_finite_order(machine, word, n, words, strings)
        self.assertEqual(certificates.order_shown(machine, word, ("finite", n, words, strings)),
                         "finite" if found else "none")
        return found

    def test_known_orders(self):
        self.assertIs(self.accepted(FIRST, "b", 1, ["b"], []), True)
        self.assertIs(self.accepted(FIRST, "", 1, [""], []), True)
        self.assertIs(self.accepted(FOUR, "a", 2, ["aa", "ee"], ["0"]), True)
        self.assertIs(self.accepted(FIRST, "a", 1, ["a"], []), False)
        self.assertIs(self.accepted(FIRST, "a", 1, ["b"], []), False)
        _, n, words, strings = decide.decide_order(SIX, "a")
        self.assertEqual((n, strings), (6, ["00", "0"]))
        self.assertIs(self.accepted(SIX, "a", n, words, strings), True)

    def test_one_thing_changed(self):
        _, n, words, strings = decide.decide_order(SIX, "a")
        for other in (0, 1, 2, 3, 4, 5, 7, 12, 199, 200, 201, -1, -6, GREAT, -GREAT):
            self.assertIs(self.accepted(SIX, "a", other, words, strings), False)
        for given in ([], ["00"], ["0"], ["00", "0", "0"], ["0", "00"], ["0" * 61, "0"], ["00", "0" * 61],
                      ["00", "3"], ["0x", "0"], ["00", ""], ["", "0"], ["00", "\u0660"], ["00", "-"]):
            self.assertIs(self.accepted(SIX, "a", n, words, given), False, given)
        for given in (["00", "1"], ["11", "000"], ["0" * 60, "2" * 60]):
            self.assertIs(self.accepted(SIX, "a", n, words, given), True, given)
        for listed in (words[1:], words[:-1], words + [words[0]], words + ["a"], words + ["x"], words + ["aA"], [],
                       [word for word in words if word != "aaaaaa"]):
            self.assertIs(self.accepted(SIX, "a", n, listed, strings), False, listed)
        self.assertIs(self.accepted(SIX, "a", n, words[::-1], strings), True)
        for word in ("A", "aa", "b", ""):
            self.assertIs(self.accepted(SIX, word, n, words, strings), False)

    def test_n_of_0(self):
        for machine, word in ((FIRST, "a"), (FIRST, "b"), (SIX, "a"), (FIRST, "")):
            for n in (0, -1):
                for strings in ([], ["0"]):
                    self.assertIs(self.accepted(machine, word, n, [""], strings), False)

    def test_multiples_of_the_order(self):
        for n in (12, 18, 30, 198):
            words, rests = support.closed_slowly(SIX, "a" * n)
            self.assertIs(rests and certificates.is_closed_list(SIX, words), True)
            primes = [p for p in range(2, n + 1) if n % p == 0 and all([p % q for q in range(2, p)])]
            for string in support.strings_of_length(3, 3):
                self.assertIs(self.accepted(SIX, "a", n, words, [string] * len(primes)), False)

    def test_greatest_numbers(self):
        """The order 64 is shown; 128 is, too; of a word at rest, no n but 1 is."""
        rows = [((1, state + 1), (0, 7)) for state in range(6)] + [((1, 7), (0, 7)), ((0, 7), (1, 7))]
        machine = (2, tuple(rows))
        words, _ = support.closed_slowly(machine, "a" * 128)
        self.assertIs(self.accepted(machine, "a", 128, words, ["0000000"]), True)
        self.assertIs(self.accepted(machine, "a", 128, words, ["000000"]), False)
        for n in (1, 2, 3, 199, 200, 201):
            words = ["b" * n]
            primes = [p for p in range(2, n + 1) if n % p == 0 and all([p % q for q in range(2, p)])]
            self.assertIs(self.accepted(FIRST, "b", n, words, ["0"] * len(primes)), n == 1)

    def test_orders_up_to_200(self):
        """Words of one letter that turn the digits: 2 of them, 3 of them, and both at different places."""
        for k, order in ((2, 2), (3, 3), (4, 4)):
            turn = tuple([((x + 1) % k, 0) for x in range(k)])
            self.assertIs(self.accepted((k, (turn,)), "a", order, ["a" * order], ["0"]), True)
            self.assertIs(self.accepted((k, (turn,)), "a", 2 * order, ["a" * 2 * order], ["0", "0"][:k - 1]), False)
        # 2 to the power 3 times 3 to the power 2, beside the two numbers that are too great by one step.
        rows = (((1, 5), (2, 5), (0, 1)), ((1, 5), (2, 5), (0, 2)), ((1, 5), (0, 3), (2, 5)), ((1, 5), (0, 4), (2, 5)),
                ((1, 5), (0, 5), (2, 5)), ((0, 5), (1, 5), (2, 5)))
        machine = (3, rows)
        self.assertEqual(orders.order_up_to(machine, "a", 100), 72)
        words, _ = support.closed_slowly(machine, "a" * 72)
        self.assertIs(self.accepted(machine, "a", 72, words, ["22110", "22"]), "22110" != self.led(machine, 36, "22110")
                      and "22" != self.led(machine, 24, "22"))
        answer = decide.decide_order(machine, "a")
        self.assertEqual(answer[0], "open")
        strings = [self.first_moved(machine, 36), self.first_moved(machine, 24)]
        self.assertIs(self.accepted(machine, "a", 72, words, strings), True)
        self.assertIs(self.accepted(machine, "a", 72, words, strings[::-1]), False)

    def test_the_greatest_orders(self):
        """There are orders of 192 and 216, and none between them; only the first one is accepted."""
        turn, swap, nothing = (1, 2, 0), (1, 0, 2), (0, 1, 2)
        for turns, swaps, order in ((1, 6, 192), (3, 3, 216)):
            outs = [turn] * turns + [swap] * swaps
            last = len(outs)
            # Each state goes on in the next one at a single digit.
            rows = [tuple([(out, state + 1 if x == 0 else last) for x, out in enumerate(written)])
                    for state, written in enumerate(outs)]
            machine = (3, tuple(rows) + (tuple([(x, last) for x in nothing]),))
            words, rests = support.closed_slowly(machine, "a" * order)
            self.assertIs(rests, True)
            strings = ["0" * last, "0" * turns]
            self.assertIs(self.accepted(machine, "a", order, words, strings), order == 192)
            self.assertNotEqual(self.led(machine, order // 2, strings[0]), strings[0])
            self.assertNotEqual(self.led(machine, order // 3, strings[1]), strings[1])

    def led(self, machine, times, string):
        for _ in range(times):
            string = support.image_by_word(machine, "a", string)
        return string

    def first_moved(self, machine, times):
        return [string for string in support.strings_up_to(3, 5) if self.led(machine, times, string) != string][0]

    def test_long_powers(self):
        # 200 copies of ten letters are listed, and 200 of eleven are not.
        machine = (2, (((1, 0), (0, 0)), ((0, 1), (1, 1))))
        self.assertIs(certificates.is_closed_list(machine, ["b" * 2000]), True)
        self.assertIs(self.accepted(machine, "b" * 10, 200, ["b" * 2000], ["0", "0"]), False)
        self.assertIs(self.accepted(machine, "a" * 59, 2, ["a" * 118], ["1"]), True)
        self.assertIs(self.accepted(machine, "a" * 59, 34, ["a" * 2006], ["1", "1"]), False)

    def test_answers_of_the_program(self):
        found = 0
        for machine, word, _ in some_cases(263, 25):
            try:
                answer = decide.decide_order(machine, word)
            except TooLarge:
                continue
            if answer[0] == "finite":
                self.assertIs(self.accepted(machine, word, *answer[1:]), True)
                found += 1
        self.assertGreater(found, 25)

    def test_errors(self):
        for machine in NO_MACHINES:
            self.assertRaises(NotMachine, certificates.is_finite_order, machine, "z", 0, [], [])
        for word in NO_WORDS:
            self.assertRaises(NotWord, certificates.is_finite_order, FIRST, word, 0, [], [])


class Endless(unittest.TestCase):
    """[264]."""

    def accepted(self, machine, word, witness):
        found = certificates.is_endless(machine, word, witness)
        self.assertEqual(certificates.order_shown(machine, word, ("endless", witness)), "endless" if found else "none")
        return found

    def test_witnesses(self):
        for witness in (("0", 2, 1, ""), ("1", 2, 1, ""), ("0", 2, 1, "a"), ("0", 2, 1, "Ab"), ("01", 4, 1, ""),
                        ("110", 8, 1, "aa"), ("0" * 10, 1024, 1, ""), ("0", 2, 1, "aA" * 2000)):
            self.assertIs(self.accepted(FIRST, "a", witness), True, witness[:3])
        self.assertIs(self.accepted(TO_AND_FRO, "a", ("0", 2, -1, "")), True)
        self.assertIs(self.accepted(TO_AND_FRO, "a", ("0", 2, 1, "")), False)
        for witness in (("0", 2, 3, "c"), ("0", 2, 9, "cc"), ("00", 4, 3, "c"), ("1", 2, 27, "ccc")):
            self.assertIs(self.accepted(THREEFOLD, "a", witness), True)
            self.assertIs(self.accepted(THREEFOLD, "A", witness), True)
        for witness in (("0", 2, 1, "c"), ("0", 2, 3, "C"), ("0", 2, 3, ""), ("0", 2, -3, "c"), ("0", 2, 9, "c")):
            self.assertIs(self.accepted(THREEFOLD, "a", witness), False)

    def test_one_thing_changed(self):
        wrong = (("2", 2, 1, ""), ("x", 2, 1, ""), (" ", 2, 1, ""), ("0\n", 2, 1, ""), ("\u0661", 2, 1, ""),
                 ("0", 1, 1, ""), ("0", 3, 1, ""), ("0", 4, 1, ""), ("00", 2, 1, ""), ("", 2, 1, ""), ("", 1, 1, ""),
                 ("0", 0, 1, ""), ("0", -1, 1, ""), ("0", -2, 1, ""), ("0", 0, 0, ""),
                 ("0", 2, 0, ""), ("0", 2, 2, ""), ("0", 2, -2, ""), ("0", 2, 4, ""), ("0", 2, -1, ""),
                 ("0", 2, 3, ""), ("0", 2, 1, "c"), ("0", 2, 1, "z"), ("0", 2, 1, "1"), ("0", 2, 1, " "),
                 ("0", 2, 1, "a-"))
        for witness in wrong:
            self.assertIs(self.accepted(FIRST, "a", witness), False, witness)
        for word in ("", "b", "aa", "aA", "bB"):
            self.assertIs(self.accepted(FIRST, word, ("0", 2, 1, "")), False)

    def test_numbers_of_very_many_digits(self):
        for word in ("a", "aa", "b", "", "aA"):
            for number in (GREAT, -GREAT, GREAT + 1, -GREAT - 1, 10 ** 20 + 1):
                for witness in (("0", number, 1, ""), ("0", 2, number, ""), ("0", number, number + 1, ""),
                                ("0", 1, number, ""), ("0", 2, number, "b")):
                    self.assertIs(self.accepted(FIRST, word, witness), False)

    def test_a_word_without_letters_and_great_exponents(self):
        """Copies of a word that is cut to nothing have no letters, however many they are."""
        machine = (2, (((1, 1), (0, 1)), ((0, 1), (1, 1))))
        for exponent in (1, 3, GREAT + 1, -GREAT - 1):
            self.assertIs(self.accepted(machine, "aA", ("0", 2, exponent, "")), False)
            self.assertIs(self.accepted(machine, "", ("0", 2, exponent, "a")), False)
            self.assertIs(self.accepted(machine, "a", ("0", 2, exponent, "")), False)
        self.assertEqual(certificates.conjugate_of("aA", GREAT, "ab"), "")
        self.assertIsNone(certificates.conjugate_of("a", GREAT, "ab"))

    def test_rounds_of_more_than_2000_steps(self):
        self.assertIs(self.accepted(FIRST, "a", ("0" * 10, 1024, 1, "")), True)
        self.assertIs(self.accepted(FIRST, "a", ("0" * 11, 2048, 1, "")), False)
        self.assertIs(self.accepted(BASE_THREE, "a", ("0" * 6, 729, 1, "")), True)
        self.assertIs(self.accepted(BASE_THREE, "a", ("0" * 7, 2187, 1, "")), False)
        self.assertIs(self.accepted(BASE_THREE, "a", ("0" * 7, 2000, 1, "")), False)

    def test_words_of_more_than_2000_letters(self):
        # The return has 60 letters for each step.
        word = "b" * 59 + "a"
        self.assertEqual(len(orders.round_of(FIRST, word, "0" * 5)[1]), 1920)
        self.assertIs(self.accepted(FIRST, word, ("0" * 5, 32, 1, "")), True)
        self.assertIs(self.accepted(FIRST, word, ("0" * 6, 64, 1, "")), False)
        # The letter b rests, so these are witnesses, but what has to be at rest has 2000 letters, and then 2002.
        self.assertIs(self.accepted(FIRST, "ba", ("0", 2, 1, "b" * 997)), True)
        self.assertIs(self.accepted(FIRST, "ba", ("0", 2, 1, "b" * 998)), False)
        self.assertIs(self.accepted(FIRST, "a", ("0", 2, 1, "b" * 998)), True)
        self.assertIs(self.accepted(FIRST, "a", ("0", 2, 1, "b" * 999)), False)
        self.assertIs(self.accepted(FIRST, "a", ("0", 2, 1, "b" * 10 ** 5)), False)

    def test_bounds_count_behind_cutting(self):
        self.assertEqual(certificates.conjugate_of("aba", 3, "A"), support.cut_slowly("A" + "aba" * 3 + "a"))
        self.assertEqual(certificates.conjugate_of("abA", -3, "b"), support.cut_slowly("b" + "aBA" * 3 + "B"))
        self.assertEqual(len(certificates.conjugate_of("ab", 1000, "")), 2000)
        self.assertIsNone(certificates.conjugate_of("ab", 1001, ""))
        self.assertEqual(len(certificates.conjugate_of("Aba", 1998, "")), 2000)
        self.assertIsNone(certificates.conjugate_of("Aba", 1999, ""))
        self.assertEqual(len(certificates.conjugate_of("Aba", 2000, "a")), 2000)
        self.assertIsNone(certificates.conjugate_of("Aba", -2001, "a"))
        rng = random.Random(2640)
        for _ in range(300):
            word, other = support.some_word(rng, FOUR, 8), support.some_word(rng, FOUR, 8)
            exponent = rng.randint(-6, 6)
            copies = (word if exponent > 0 else support.undone_slowly(word)) * abs(exponent)
            self.assertEqual(certificates.conjugate_of(word, exponent, other),
                             support.cut_slowly(other + copies + support.undone_slowly(other)))

    def test_lists_of_more_than_4000_words(self):
        for case, accepted in ((support.AT_LIMIT, True), (support.OVER_LIMIT, False)):
            machine, word = case
            self.assertIs(certificates.is_shown_at_rest(certificates.moves_of(machine), word), accepted)
            found, rests = support.closed_slowly(machine, word)
            self.assertEqual((len(found), rests), (4000 if accepted else 4001, True))
        for case, accepted in ((ADDING_AT_LIMIT, True), (ADDING_OVER_LIMIT, False)):
            machine, other = case
            self.assertIs(self.accepted(machine, "a", ("0", 2, 1, "")), True)
            self.assertIs(self.accepted(machine, "a", ("0", 2, 1, other)), accepted)
            _, back = orders.round_of(machine, "a", "0")
            found, rests = support.closed_slowly(machine, back + support.undone_slowly(other + "a" +
                                                                                     support.undone_slowly(other)))
            self.assertEqual((len(found), rests), (4000 if accepted else 4001, True))

    def test_against_comparing_words(self):
        rng = random.Random(264)
        answers = {True: 0, False: 0}
        for machine, word, other in some_cases(264, 10):
            for string in support.strings_up_to(machine[0], 2)[1:]:
                steps, _ = round_slowly(machine, word, string)
                for witness in ((string, steps, 1, ""), (string, steps, -1, ""), (string, steps, 1, other),
                                (string, steps, rng.randint(-4, 4), other), (string, steps + 1, 1, "")):
                    expected = is_witness_slowly(machine, word, witness)
                    if expected is not None:
                        self.assertIs(self.accepted(machine, word, witness), expected)
                        self.assertIs(orders.is_witness(machine, word, witness), expected)
                        answers[expected] += 1
        self.assertGreater(answers[True], 20)
        self.assertGreater(answers[False], 200)

    def test_errors(self):
        witness = ("x", 0, 0, "z")
        for machine in NO_MACHINES:
            self.assertRaises(NotMachine, certificates.is_endless, machine, "z", witness)
        for word in NO_WORDS:
            self.assertRaises(NotWord, certificates.is_endless, FIRST, word, witness)


class OrdersShown(unittest.TestCase):
    """[265]."""

    def test_answers_of_the_program(self):
        kinds = {}
        for machine, word, _ in some_cases(265, 25):
            try:
                answer = decide.decide_order(machine, word)
            except TooLarge:
                continue
            expected = "none" if answer == ("open",) else answer[0]
            self.assertEqual(certificates.order_shown(machine, word, answer), expected)
            kinds[expected] = kinds.get(expected, 0) + 1
        self.assertEqual(len(kinds), 3)
        self.assertGreater(min(kinds.values()), 2)

    def test_other_answers(self):
        for answer in (("open",), ("finite", 0, ["b"], []), ("finite", 1, [], []), ("finite", 1, ["b"], ["0"]),
                       ("finite", 2, ["bb"], ["0"]), ("endless", ("0", 2, 1, "")), ("equal", ["b"]), ("apart", "0"),
                       ("finite",), ("finite", 1, ["b"]), ("finite", 1, ["b"], [], []), ("equal", 1, ["b"], []),
                       ("open", 1, ["b"], [])):
            self.assertEqual(certificates.order_shown(FIRST, "b", answer), "none", answer)
        for answer in (("endless",), ("endless", ("0", 2, 1, ""), 1), ("open", ("0", 2, 1, "")),
                       ("finite", ("0", 2, 1, ""))):
            self.assertEqual(certificates.order_shown(FIRST, "a", answer), "none", answer)
        self.assertEqual(certificates.order_shown(FIRST, "b", ("finite", 1, ["b"], [])), "finite")

    def test_no_two_answers_contradict_each_other(self):
        for word in ("a", "b", "aa", ""):
            shown = set()
            for n in range(1, 9):
                words, _ = support.closed_slowly(FIRST, word * n)
                for strings in ([], ["0"], ["00"], ["0", "0"]):
                    if certificates.order_shown(FIRST, word, ("finite", n, words, strings)) == "finite":
                        shown.add(n)
            for witness in (("0", 2, 1, ""), ("00", 2, 1, ""), ("00", 4, 1, "")):
                if certificates.order_shown(FIRST, word, ("endless", witness)) == "endless":
                    shown.add("endless")
            # The word aa is endless, but has no witness among these.
            self.assertEqual(shown, {"a": {"endless"}, "aa": set()}.get(word, {1}))

    def test_errors(self):
        for answer in (("open",), ("finite", 0, [], []), ("endless", ("x", 0, 0, "z"))):
            for machine in NO_MACHINES:
                self.assertRaises(NotMachine, certificates.order_shown, machine, "z", answer)
            for word in NO_WORDS:
                self.assertRaises(NotWord, certificates.order_shown, FIRST, word, answer)

    def test_arguments_are_unchanged(self):
        """[0]."""
        answer = decide.decide_order(SIX, "a")
        kept = copy.deepcopy(answer)
        certificates.order_shown(SIX, "a", answer)
        self.assertEqual(answer, kept)
        words = ["b", "abA"]
        certificates.is_closed_list(FIRST, words)
        certificates.shows_equal(FIRST, "ab", "a", words)
        self.assertEqual(words, ["b", "abA"])


if __name__ == "__main__":
    unittest.main()
