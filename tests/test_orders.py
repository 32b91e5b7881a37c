import itertools
import math
import random
import unittest

import support
from leafturner import orders, wordmachine, words
from leafturner.errors import BadNumber, NotMachine, NotString, NotWord, TooLarge
from test_machines import WRONG
from test_words import NINE, NO_WORDS
from test_wordmachine import EXAMPLE, OVER_LIMIT

FIRST = support.FIRST
FOUR = support.FOUR_STATES
GREAT = support.GREAT

# Lowest digit first: a adds 1, b rests, and c, d, e take x to 3 x, 3 x + 1 and 3 x + 2.
THREEFOLD = (2, (((1, 1), (0, 0)), ((0, 1), (1, 1)), ((0, 2), (1, 3)), ((1, 2), (0, 4)), ((0, 3), (1, 4))))
# A beginning of the word is needed for its witnesses.
BY_A_BEGINNING = ((2, (((1, 3), (0, 3)), ((1, 3), (0, 1)), ((1, 3), (0, 3)), ((0, 3), (1, 3)))), "CBA")
# The states undo each other, and the return of 0 under the first one is the other one.
TO_AND_FRO = (2, (((1, 2), (0, 1)), ((1, 0), (0, 2)), ((0, 2), (1, 2))))


def rests(machine, word, most=1500):
    """Whether a word is at rest, found from section to section, or None if there are too many."""
    found = [support.cut_slowly(word)]
    seen = set(found)
    for part in found:
        for x in range(machine[0]):
            if support.image_by_word(machine, part, str(x)) != str(x):
                return False
            section = support.cut_slowly(support.section_slowly(machine, part, str(x)))
            if section not in seen:
                seen.add(section)
                found.append(section)
        if len(found) > most:
            return None
    return True


def power_slowly(word, exponent):
    return support.cut_slowly((word if exponent > 0 else support.undone_slowly(word)) * abs(exponent))


def order_slowly(machine, word, most):
    """The order, None if there is none up to most, or "large" if too much would be needed."""
    for n in range(1, most + 1):
        power = power_slowly(word, n)
        answer = rests(machine, power) if len(power) <= 300 else None
        if answer is None:
            return "large"
        if answer:
            return n
    return None


def round_slowly(machine, word, string):
    at = support.image_by_word(machine, word, string)
    steps = 1
    while at != string:
        at = support.image_by_word(machine, word, at)
        steps += 1
    return steps, support.cut_slowly(support.section_slowly(machine, word * steps, string))


def is_witness_slowly(machine, word, witness):
    string, steps, exponent, other = witness
    length, back = round_slowly(machine, word, string)
    if steps != length or exponent % steps == 0:
        return False
    conjugate = other + power_slowly(word, exponent) + support.undone_slowly(other)
    return rests(machine, conjugate + support.undone_slowly(back), 4000)


def directed_machine(rng, k, states):
    rest = rng.randrange(states)
    rows = []
    for state in range(states):
        outs = list(range(k))
        rng.shuffle(outs)
        if state == rest:
            outs = list(range(k))
        row = [(out, rest) for out in outs]
        if state != rest:
            x = rng.randrange(k)
            row[x] = (row[x][0], rng.randrange(states))
        rows.append(tuple(row))
    return (k, tuple(rows))


def some_pairs(seed, count, letters):
    rng = random.Random(seed)
    chosen = list(support.MACHINES) + support.some_machines(seed, 10, 3) + [THREEFOLD, TO_AND_FRO]
    chosen += [directed_machine(rng, rng.choice((2, 3)), rng.randint(1, 4)) for _ in range(20)]
    return [(machine, support.some_word(rng, machine, letters)) for machine in chosen for _ in range(count)]


class Powers(unittest.TestCase):
    """[80]."""

    def test_known_powers(self):
        self.assertEqual(orders.power(FIRST, "ab", 3), "ababab")
        self.assertEqual(orders.power(FIRST, "ab", -2), "BABA")
        self.assertEqual(orders.power(FIRST, "abA", 4), "abbbbA")
        self.assertEqual(orders.power(FIRST, "abA", -4), "aBBBBA")
        self.assertEqual(orders.power(FIRST, "abAA", 2), "abAbAA")
        for word in ("", "a", "ab", "aA", "abBA"):
            self.assertEqual(orders.power(FIRST, word, 0), "")
        for exponent in (-200, -1, 1, 7, 200):
            self.assertEqual(orders.power(FIRST, "abBA", exponent), "")

    def test_against_cutting_all_copies(self):
        rng = random.Random(80)
        for _ in range(150):
            word = support.some_word(rng, FIRST, 9)
            for exponent in (0, 1, -1, 2, -2, rng.randint(-200, 200), 200, -200):
                expected = power_slowly(word, exponent) if exponent else ""
                if len(expected) <= 2000:
                    self.assertEqual(orders.power(FIRST, word, exponent), expected)
                else:
                    self.assertRaises(TooLarge, orders.power, FIRST, word, exponent)

    def test_2000_letters_after_cutting(self):
        self.assertEqual(orders.power(FIRST, "a" * 10, 200), "a" * 2000)
        self.assertEqual(orders.power(FIRST, "a" * 10, -200), "A" * 2000)
        self.assertRaises(TooLarge, orders.power, FIRST, "a" * 11, 200)
        self.assertRaises(TooLarge, orders.power, FIRST, "a" * 11, -182)
        self.assertEqual(len(orders.power(FIRST, "a" * 11, 181)), 1991)
        self.assertEqual(len(orders.power(FIRST, "ab" * 30, 33)), 1980)
        self.assertRaises(TooLarge, orders.power, FIRST, "ab" * 30, 34)
        # The copies cut each other: 2 letters more for each copy, and the ends.
        word = "a" * 25 + "bb" + "A" * 25
        self.assertEqual(orders.power(FIRST, word, 200), "a" * 25 + "b" * 400 + "A" * 25)
        word = "ab" * 9 + "a" * 10 + "BA" * 9
        self.assertEqual(len(orders.power(FIRST, word, 196)), 1996)
        self.assertRaises(TooLarge, orders.power, FIRST, word, 197)

    def test_the_exponent(self):
        for exponent in (-201, 201, 1000, GREAT, -GREAT):
            self.assertRaises(BadNumber, orders.power, FIRST, "a", exponent)
            self.assertRaises(BadNumber, orders.power, FIRST, "", exponent)
            self.assertRaises(BadNumber, orders.power, FIRST, "a" * 60, exponent)


class Orders(unittest.TestCase):
    """[80] and [86]."""

    def test_known_orders(self):
        for word, expected in (("", 1), ("aA", 1), ("a", 2), ("b", 2), ("bcd", 1), ("ab", 16), ("ac", 8), ("ad", 4),
                               ("da", 4), ("abac", 8)):
            self.assertEqual(orders.order_up_to(FOUR, word, 100), expected)
            self.assertEqual(orders.order_up_to(FOUR, word, expected), expected)
            if expected > 1:
                self.assertIsNone(orders.order_up_to(FOUR, word, expected - 1))
        self.assertEqual(orders.order_up_to(FIRST, "b", 1), 1)
        for most in (1, 2, 63, 64, 65, 99, 100):
            self.assertIsNone(orders.order_up_to(FIRST, "a", most))
            self.assertIsNone(orders.order_up_to(FIRST, "A" * 20, most))

    def test_all_bounds(self):
        for most in range(1, 101):
            self.assertEqual(orders.order_up_to(FOUR, "ab", most), 16 if most >= 16 else None)
            self.assertEqual(orders.order_up_to(FOUR, "abacabad" + "abab", most), 16 if most >= 16 else None)
        # The digit 3 is kept, with a state behind it that turns four digits around; three are turned here.
        machine = (4, (((1, 2), (2, 2), (0, 2), (3, 1)), ((1, 2), (2, 2), (3, 2), (0, 2)),
                       ((0, 2), (1, 2), (2, 2), (3, 2))))
        for most in range(1, 101):
            self.assertEqual(orders.order_up_to(machine, "a", most), 12 if most >= 12 else None)

    def test_against_all_powers(self):
        found = {}
        for machine, word in some_pairs(81, 5, 3):
            expected = order_slowly(machine, word, 12)
            if expected == "large":
                continue
            self.assertEqual(orders.order_up_to(machine, word, 12), expected)
            if expected is not None:
                found[expected] = True
                self.assertEqual(orders.order_up_to(machine, word, expected), expected)
                if expected > 1:
                    self.assertIsNone(orders.order_up_to(machine, word, expected - 1))
        self.assertGreaterEqual(len(found), 4)
        self.assertIn(3, found)

    def test_the_least_common_multiple_of_rounds(self):
        """[82]."""
        for word in ("ab", "ac", "ad", "abac", "abad", "acad", "b", "adab"):
            order = orders.order_up_to(FOUR, word, 100)
            for level in (1, 2, 3):
                many = 1
                for string in support.strings_of_length(2, level):
                    steps, back = orders.round_of(FOUR, word, string)
                    self.assertEqual(order % steps, 0)
                    again = orders.order_up_to(FOUR, back, 100)
                    self.assertEqual(order // steps % again, 0)
                    many = math.lcm(many, steps * again)
                self.assertEqual(order, many)

    def test_undone_and_conjugate_words(self):
        rng = random.Random(82)
        for machine, word in some_pairs(83, 3, 3):
            other = support.some_word(rng, machine, 3)
            try:
                order = orders.order_up_to(machine, word, 10)
                undone = orders.order_up_to(machine, support.undone_slowly(word), 10)
                conjugate = orders.order_up_to(machine, other + word + support.undone_slowly(other), 10)
            except TooLarge:
                continue
            self.assertEqual(undone, order)
            self.assertEqual(conjugate, order)

    def test_two_letters_of_finite_order_may_be_endless_together(self):
        machine = (2, (((1, 1), (0, 1)), ((0, 1), (1, 1)), ((0, 0), (1, 2))))
        self.assertEqual(orders.order(machine, "a"), ("finite", 2))
        self.assertEqual(orders.order(machine, "c"), ("finite", 2))
        self.assertEqual(orders.order(machine, "ac")[0], "endless")

    def test_too_large_only_as_told(self):
        kinds = {}
        for machine, word in some_pairs(84, 4, 8):
            try:
                answer = orders.order_up_to(machine, word, 20)
            except TooLarge:
                self.assertTrue(self.has_large_power(machine, word, 20))
                answer = "large"
            kinds[answer] = True
        self.assertGreater(len(kinds), 3)

    def has_large_power(self, machine, word, most):
        for n in range(1, most + 1):
            power = power_slowly(word, n)
            if len(power) > 2000 or len(wordmachine_slowly(machine, power)) > 1000:
                return True
        return False

    def test_an_order_that_is_found_before_a_power_that_is_too_large(self):
        rng = random.Random(85)
        found = 0
        while found < 8:
            word = "".join([rng.choice("ad" if n % 2 else "abc") for n in range(60)])
            order = orders.order_up_to(FOUR, word, 30)
            if order is not None and len(power_slowly(word, 100)) > 2000:
                self.assertEqual(orders.order_up_to(FOUR, word, 100), order)
                self.assertEqual(orders.order(FOUR, word), ("finite", order))
                found += 1
        # The power 2 of this word is at rest, so that is all that is needed.
        self.assertEqual(orders.order_up_to(FOUR, "ba" * 15 + "ab" * 15, 100), 1)
        self.assertEqual(orders.order_up_to(FOUR, "ba" * 14 + "b" + "ab" * 14, 100), 2)

    def test_most(self):
        for most in (0, 101, -1, 1000, GREAT, -GREAT):
            self.assertRaises(BadNumber, orders.order_up_to, FIRST, "b", most)
            self.assertRaises(BadNumber, orders.order_up_to, FIRST, "a" * 60, most)

    def test_all_next_states_rest(self):
        """[88]."""
        for k in (2, 3, 4):
            for outs in itertools.permutations(range(k)):
                machine = (k, (tuple([(out, 1) for out in outs]), tuple([(x, 1) for x in range(k)])))
                order = orders.order_up_to(machine, "a", 4)
                self.assertEqual(order, order_slowly(machine, "a", 4))
                self.assertIn(order, (1, 2, 3, 4))


def wordmachine_slowly(machine, word):
    """The section words of a word, at most 1001 of them."""
    found = [support.cut_slowly(word)]
    seen = set(found)
    for part in found:
        for x in range(machine[0]):
            section = support.cut_slowly(support.section_slowly(machine, part, str(x)))
            if section not in seen:
                seen.add(section)
                found.append(section)
        if len(found) > 1000:
            break
    return found


class Rounds(unittest.TestCase):
    """[81] and [82]."""

    def test_known_rounds(self):
        self.assertEqual(orders.round_of(FIRST, "a", "0"), (2, "ba"))
        self.assertEqual(orders.round_of(FIRST, "a", "00"), (4, "bbba"))
        self.assertEqual(orders.round_of(FIRST, "b", "0110"), (1, "b"))
        self.assertEqual(orders.round_of(FIRST, "aB", "1"), (2, "aB"))
        self.assertEqual(orders.round_of(FOUR, "ab", "1"), (2, "eaec"))

    def test_the_empty_string(self):
        for machine, word in some_pairs(86, 2, 4):
            self.assertEqual(orders.round_of(machine, word, ""), (1, support.cut_slowly(word)))
            self.assertEqual(orders.round_of(machine, "", "0101"), (1, ""))

    def test_against_going_around(self):
        lengths = {}
        for machine, word in some_pairs(87, 3, 4):
            for string in support.strings_up_to(machine[0], 3):
                found = orders.round_of(machine, word, string)
                self.assertEqual(found, round_slowly(machine, word, string))
                lengths[found[0]] = True
        self.assertGreater(len(lengths), 6)

    def test_strings_of_60_digits(self):
        self.assertEqual(orders.round_of(FOUR, "ab", "01" * 30), round_slowly(FOUR, "ab", "01" * 30))
        self.assertEqual(orders.round_of(FIRST, "b", "01" * 30), (1, "b"))

    def test_at_most_2000_steps(self):
        steps, back = orders.round_of(FIRST, "a", "0" * 10)
        self.assertEqual((steps, back), (1024, "b" * 1023 + "a"))
        self.assertRaises(TooLarge, orders.round_of, FIRST, "a", "0" * 11)
        self.assertRaises(TooLarge, orders.round_of, FIRST, "a", "01" * 30)
        self.assertRaises(TooLarge, orders.round_of, FIRST, "aaa", "0" * 11)

    def test_at_most_2000_letters(self):
        self.assertEqual(len(orders.round_of(FIRST, "ab" * 30, "0" * 6)[1]), 1920)
        self.assertRaises(TooLarge, orders.round_of, FIRST, "ab" * 30, "0" * 7)
        # The round has many letters, but its return has none.
        self.assertEqual(orders.round_of(FIRST, "a" + "bB" * 29 + "A", "0" * 11), (1, ""))

    def test_no_strings(self):
        for string in ("2", "x", "-", "0" * 61, "\u0661"):
            self.assertRaises(NotString, orders.round_of, FIRST, "a", string)
            for word in NO_WORDS:
                self.assertRaises(NotWord, orders.round_of, FIRST, word, string)


class Witnesses(unittest.TestCase):
    """[83], [84], [85], [87] and [88]."""

    def test_the_example(self):
        self.assertIs(orders.is_witness(EXAMPLE, "a", ("0", 2, 1, "")), True)

    def test_witnesses(self):
        for witness in (("1", 2, 1, ""), ("0", 2, 1, "a"), ("0", 2, 1, "Ab"), ("01", 4, 1, ""), ("110", 8, 1, "aa")):
            self.assertIs(orders.is_witness(FIRST, "a", witness), True)
        self.assertIs(orders.is_witness(FIRST, "aaa", ("0", 2, 1, "")), True)
        self.assertIs(orders.is_witness(TO_AND_FRO, "a", ("0", 2, -1, "")), True)
        self.assertIs(orders.is_witness(TO_AND_FRO, "a", ("0", 2, 1, "")), False)
        for witness in (("0", 2, 1, ""), ("0", 2, 3, "c"), ("0", 2, 9, "cc"), ("00", 4, 3, "c"), ("1", 2, 27, "ccc")):
            self.assertIs(orders.is_witness(THREEFOLD, "a", witness), True)
            string, steps, exponent, other = witness
            self.assertIs(orders.is_witness(THREEFOLD, "A", (string, steps, exponent, other)), True)
        for witness in (("0", 2, 1, "c"), ("0", 2, 3, "C"), ("0", 2, 3, ""), ("0", 2, -3, "c"), ("0", 2, 9, "c")):
            self.assertIs(orders.is_witness(THREEFOLD, "a", witness), False)

    def test_one_thing_changed(self):
        wrong = (("2", 2, 1, ""), ("x", 2, 1, ""), (" ", 2, 1, ""), ("0\n", 2, 1, ""), ("\u0661", 2, 1, ""),
                 ("0", 1, 1, ""), ("0", 3, 1, ""), ("0", 4, 1, ""), ("00", 2, 1, ""), ("", 2, 1, ""), ("", 1, 1, ""),
                 ("0", 0, 1, ""), ("0", -1, 1, ""), ("0", -2, 1, ""),
                 ("0", 2, 0, ""), ("0", 2, 2, ""), ("0", 2, -2, ""), ("0", 2, 4, ""), ("0", 2, -1, ""),
                 ("0", 2, 3, ""), ("0", 2, 1, "c"), ("0", 2, 1, "z"), ("0", 2, 1, "1"), ("0", 2, 1, " "))
        for witness in wrong:
            self.assertIs(orders.is_witness(FIRST, "a", witness), False, witness)
        for word in ("", "b", "aa", "aA", "bB"):
            self.assertIs(orders.is_witness(FIRST, word, ("0", 2, 1, "")), False)

    def test_numbers_of_very_many_digits(self):
        for number in (GREAT, -GREAT):
            self.assertIs(orders.is_witness(FIRST, "a", ("0", number, 1, "")), False)
            self.assertIs(orders.is_witness(FIRST, "a", ("0", 2, number, "")), False)
            self.assertIs(orders.is_witness(FIRST, "a", ("0", number, number, "")), False)
            # The exponent is odd, and a low level tells the words apart.
            self.assertIs(orders.is_witness(FIRST, "a", ("0", 2, number + 3, "")), False)
            self.assertIs(orders.is_witness(FIRST, "", ("0", 1, number, "")), False)
            self.assertIs(orders.is_witness(FIRST, "", ("0", 2, number + 1, "")), False)
        # On low levels the power acts as the word itself does.
        try:
            self.assertIs(orders.is_witness(FIRST, "a", ("0", 2, 2 ** 20000 + 1, "")), False)
        except TooLarge:
            pass

    def test_against_comparing_words(self):
        rng = random.Random(88)
        answers = {True: 0, False: 0}
        for machine, word in some_pairs(89, 4, 2):
            for string in support.strings_up_to(machine[0], 2)[1:]:
                steps, _ = round_slowly(machine, word, string)
                other = support.some_word(rng, machine, 2)
                for witness in ((string, steps, 1, ""), (string, steps, -1, ""), (string, steps, 1, other),
                                (string, steps, rng.randint(-4, 4), other)):
                    expected = is_witness_slowly(machine, word, witness)
                    if expected is not None:
                        self.assertIs(orders.is_witness(machine, word, witness), expected)
                        answers[expected] += 1
        self.assertGreater(answers[True], 20)
        self.assertGreater(answers[False], 200)

    def test_directed_machines_are_never_too_large(self):
        rng = random.Random(90)
        for _ in range(150):
            machine = directed_machine(rng, rng.choice((2, 3, 4)), rng.randint(2, 8))
            letters = support.letters_of(machine)
            word = "".join([rng.choice(letters) for _ in range(4)])
            other = "".join([rng.choice(letters) for _ in range(rng.choice((0, 6)))])
            for string in rng.sample(support.strings_of_length(machine[0], 3), 4):
                steps, back = orders.round_of(machine, word, string)
                self.assertIn(orders.is_witness(machine, word, (string, steps, 1, other)), (True, False))
                self.assertIn(orders.is_witness(machine, word, (string, steps, rng.randint(-4, 4), other)),
                              (True, False))

    def test_found_witnesses_are_witnesses(self):
        found = 0
        for machine, word in some_pairs(91, 6, 3):
            witness = orders.find_witness(machine, word)
            if witness is not None:
                found += 1
                self.assertIs(orders.is_witness(machine, word, witness), True)
                if rests(machine, word, 100) is not None:
                    self.assertIs(is_witness_slowly(machine, word, witness), True)
        self.assertGreater(found, 10)

    def test_a_witness_is_found_where_there_is_one(self):
        found = 0
        for machine, word in some_pairs(92, 4, 3):
            if self.has_witness(machine, word):
                self.assertIsNotNone(orders.find_witness(machine, word))
                found += 1
        self.assertGreater(found, 10)
        self.assertEqual(orders.find_witness(FIRST, "b"), None)
        self.assertIsNotNone(orders.find_witness(FIRST, "a" * 3))
        self.assertIsNotNone(orders.find_witness(TO_AND_FRO, "a"))

    def has_witness(self, machine, word):
        for string in support.strings_up_to(machine[0], 2)[1:]:
            steps, _ = round_slowly(machine, word, string)
            for exponent in (1, -1):
                for length in range(len(word) + 1):
                    if steps > 1 and is_witness_slowly(machine, word, (string, steps, exponent, word[:length])):
                        return True
        return False

    def test_only_a_beginning_of_the_word_gives_a_witness(self):
        machine, word = BY_A_BEGINNING
        witness = orders.find_witness(machine, word)
        self.assertIsNotNone(witness)
        self.assertIs(is_witness_slowly(machine, word, witness), True)
        for string in support.strings_up_to(machine[0], 2)[1:]:
            steps, _ = round_slowly(machine, word, string)
            for exponent in (1, -1):
                self.assertIsNot(is_witness_slowly(machine, word, (string, steps, exponent, "")), True)

    def test_finding_is_never_too_large(self):
        rng = random.Random(93)
        for machine in support.MACHINES + (OVER_LIMIT[0],) + tuple(support.some_machines(93, 10, 8)):
            for _ in range(3):
                word = "".join([rng.choice(support.letters_of(machine)) for _ in range(60)])
                witness = orders.find_witness(machine, word)
                if witness is not None:
                    self.assertIs(orders.is_witness(machine, word, witness), True)

    def test_rounds_grow(self):
        """[87]."""
        for machine, word, witness in ((FIRST, "a", ("0", 2, 1, "")), (FIRST, "aaa", ("01", 4, 1, "")),
                                       (TO_AND_FRO, "a", ("0", 2, -1, ""))):
            self.assertIs(orders.is_witness(machine, word, witness), True)
            for t in (1, 2, 3):
                longest = max([orders.round_of(machine, word, string)[0]
                               for string in support.strings_of_length(2, len(witness[0]) * t)])
                self.assertGreaterEqual(longest, witness[1] ** t)
        for word in ("ab", "ac", "ad"):
            order = orders.order_up_to(FOUR, word, 100)
            for string in support.strings_of_length(2, 6):
                self.assertLessEqual(orders.round_of(FOUR, word, string)[0], order)


class Kinds(unittest.TestCase):
    """[82], [84] and the three kinds of answers."""

    def test_known_answers(self):
        self.assertEqual(orders.order(FIRST, ""), ("finite", 1))
        self.assertEqual(orders.order(FOUR, "ab"), ("finite", 16))
        kind, witness = orders.order(FIRST, "a")
        self.assertEqual(kind, "endless")
        self.assertIs(orders.is_witness(FIRST, "a", witness), True)
        self.assertEqual(orders.order(support.FREE, "a"), ("open", None))

    def test_an_order_of_64_and_a_greater_one(self):
        # The state 0 exchanges 0 and 1, going on in the next one at 0 alone, so that the order is doubled each time.
        rows = [((1, state + 1), (0, 7)) for state in range(6)] + [((1, 7), (0, 7)), ((0, 7), (1, 7))]
        machine = (2, tuple(rows))
        self.assertEqual(orders.order(machine, "b"), ("finite", 64))
        self.assertEqual(orders.order_up_to(machine, "b", 64), 64)
        self.assertIsNone(orders.order_up_to(machine, "b", 63))
        self.assertIsNone(orders.order_up_to(machine, "a", 100))
        self.assertEqual(orders.order(machine, "a"), ("open", None))

    def test_never_finite_where_there_is_a_witness(self):
        kinds = {}
        for machine, word in some_pairs(94, 8, 4):
            witness = orders.find_witness(machine, word)
            try:
                kind, told = orders.order(machine, word)
            except TooLarge:
                self.assertIsNone(witness)
                continue
            kinds[kind] = kinds.get(kind, 0) + 1
            if witness is not None:
                self.assertEqual(kind, "endless")
            if kind == "finite":
                self.assertEqual(orders.order_up_to(machine, word, 64), told)
            elif kind == "endless":
                self.assertIs(orders.is_witness(machine, word, told), True)
            else:
                self.assertIsNone(told)
        self.assertEqual(len(kinds), 3)
        self.assertGreater(min(kinds.values()), 10)

    def test_long_words(self):
        kind, _ = orders.order(FIRST, "a" * 59)
        self.assertEqual(kind, "endless")
        self.assertEqual(orders.order(FIRST, "bB" * 30), ("finite", 1))


class Errors(unittest.TestCase):
    def test_no_machine_and_no_word(self):
        calls = ((orders.power, (201,)), (orders.order_up_to, (0,)), (orders.round_of, ("x",)),
                 (orders.is_witness, (("x", 0, 0, "z"),)), (orders.find_witness, ()), (orders.order, ()))
        for function, values in calls:
            for machine in tuple(WRONG.values()) + (NINE,):
                self.assertRaises(NotMachine, function, machine, "", *values)
                self.assertRaises(NotMachine, function, machine, "z", *values)
            for word in NO_WORDS:
                self.assertRaises(NotWord, function, FIRST, word, *values)

    def test_cut_words_are_returned(self):
        self.assertEqual(words.cut_word(FIRST, orders.power(FIRST, "abA", 1)), orders.power(FIRST, "abA", 1))


if __name__ == "__main__":
    unittest.main()
