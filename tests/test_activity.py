import fractions
import itertools
import random
import unittest

import support
from leafturner import activity, closed, wordmachine
from leafturner.errors import BadNumber, NotMachine, NotWord, TooLarge
from test_machines import WRONG
from test_wordmachine import AT_LIMIT_FEW, EXAMPLE, OVER_LIMIT, OVER_LIMIT_FEW, short_machine, some_pairs
from test_words import NINE, NO_WORDS

FIRST = support.FIRST
FOUR = support.FOUR_STATES
GREAT = support.GREAT

# Each state stays where it is at 0 and goes on in the state before it at 1, with the degrees 0, 1, 2, .. 6.
STAIRS = (2, tuple([((1, 1), (0, 0)), ((0, 1), (1, 1)), ((0, 2), (1, 0))]
                   + [((0, state), (1, state - 1)) for state in range(3, 8)]))
# Words with word machines of exactly 40 and 41 rows.
ROWS_40 = ((2, (((0, 0), (1, 1)), ((1, 0), (0, 2)), ((0, 1), (1, 1)))), "ACAA")
ROWS_41 = ((2, (((0, 0), (1, 1)), ((1, 0), (0, 2)), ((1, 1), (0, 1)))), "cBAB")


def activity_slowly(machine, word, level):
    strings = support.strings_of_length(machine[0], level)
    return sum([not closed.is_at_rest(machine, support.section_slowly(machine, word, string)) for string in strings])


def active_arrows(machine, word):
    """For each row that is not resting, the rows to which arrows lead."""
    _, rows = wordmachine.word_machine(machine, word)
    rest = [number for number, row in enumerate(rows) if row == tuple([(x, number) for x in range(len(row))])]
    return {number: [after for _, after in row if after not in rest]
            for number, row in enumerate(rows) if number not in rest}


def circles_slowly(arrows):
    """All circles that meet no corner twice, each as the tuple of its arrows from its least corner on."""
    found = []

    def go(start, at, corners, used):
        for place, after in enumerate(arrows[at]):
            if after == start:
                found.append(used + ((at, place),))
            elif after > start and after not in corners:
                go(start, after, corners + [after], used + ((at, place),))

    for start in arrows:
        go(start, start, [start], ())
    return found


def degree_slowly(machine, word):
    arrows = active_arrows(machine, word)
    circles = [sorted(set([corner for corner, _ in circle])) for circle in circles_slowly(arrows)]
    corners = [corner for circle in circles for corner in circle]
    if len(corners) > len(set(corners)):
        return None

    def most(circle):
        """The greatest number of circles that a way from a circle on meets."""
        found = [circle[0]]
        for corner in found:
            found += [after for after in arrows[corner] if after not in found]
        return 1 + max([most(other) for other in circles if other != circle and other[0] in found], default=0)

    return max([most(circle) for circle in circles], default=0) - 1


def series_of(fraction, many):
    above, below = fraction
    found = []
    for n in range(many):
        value = above[n] if n < len(above) else 0
        value -= sum([below[i] * found[n - i] for i in range(1, min(n, len(below) - 1) + 1)])
        found.append(value)
    return found


def common_degree(one, other):
    """The degree of the greatest common divisor of two polynomials with rational coefficients."""
    one = [fractions.Fraction(number) for number in one]
    other = [fractions.Fraction(number) for number in other]
    while other:
        while len(one) >= len(other):
            factor = one[-1] / other[-1]
            shift = len(one) - len(other)
            one = [a - (factor * other[n - shift] if n >= shift else 0) for n, a in enumerate(one)]
            while one and one[-1] == 0:
                one.pop()
        one, other = other, one
    return len(one) - 1


class Activities(unittest.TestCase):
    """[160], [161] and [162]."""

    def test_known_activities(self):
        self.assertEqual(activity.activities(EXAMPLE, "a", 5), [1] * 6)
        self.assertEqual(activity.activities(EXAMPLE, "aa", 5), [1, 2, 2, 2, 2, 2])
        self.assertEqual(activity.activities(EXAMPLE, "b", 3), [0] * 4)
        self.assertEqual(activity.activities(FOUR, "a", 3), [1, 0, 0, 0])
        self.assertEqual(activity.activities(FOUR, "b", 6), [1, 2, 2, 1, 2, 2, 1])
        self.assertEqual(activity.activities(STAIRS, "c", 5), [1, 2, 3, 4, 5, 6])
        self.assertEqual(activity.activities(STAIRS, "d", 5), [1, 2, 4, 7, 11, 16])

    def test_against_counting_sections(self):
        for machine, word in some_pairs(160, 5, 3):
            greatest = {2: 5, 3: 3, 4: 3}[machine[0]]
            expected = [activity_slowly(machine, word, level) for level in range(greatest + 1)]
            self.assertEqual(activity.activities(machine, word, greatest), expected)
            for level in range(greatest + 1):
                self.assertEqual(activity.activity(machine, word, level), expected[level])
                self.assertEqual(activity.activities(machine, word, level), expected[:level + 1])

    def test_the_levels_0_and_200(self):
        for machine, word in some_pairs(161, 2, 3):
            rest = closed.is_at_rest(machine, word)
            self.assertEqual(activity.activity(machine, word, 0), 0 if rest else 1)
            self.assertEqual(activity.activities(machine, word, 0), [0 if rest else 1])
            self.assertEqual(len(activity.activities(machine, word, 200)), 201)
        self.assertEqual(activity.activity(EXAMPLE, "aa", 200), 2)
        self.assertEqual(activity.activity(STAIRS, "d", 200), 1 + 200 + 200 * 199 // 2)
        self.assertEqual(activity.activity(support.FREE, "a", 200), 2 ** 200)

    def test_undone_words_products_and_levels(self):
        rng = random.Random(162)
        for machine, word in some_pairs(162, 4, 3):
            other = support.some_word(rng, machine, 2)
            own = activity.activities(machine, word, 12)
            self.assertEqual(activity.activities(machine, support.undone_slowly(word), 12), own)
            others = activity.activities(machine, other, 12)
            both = activity.activities(machine, word + other, 12)
            for one, two, whole in zip(own, others, both):
                self.assertLessEqual(whole, one + two)
            for one, two in zip(own, own[1:]):
                self.assertLessEqual(two, machine[0] * one)
            part, letter = word[:2], other[:1]
            own, others = activity.activities(machine, part, 12), activity.activities(machine, letter, 12)
            conjugate = activity.activities(machine, letter + part + support.undone_slowly(letter), 12)
            for one, two, whole in zip(own, others, conjugate):
                self.assertLessEqual(abs(whole - one), 2 * two)

    def test_equal_words(self):
        self.assertEqual(activity.activities(FOUR, "bc", 20), activity.activities(FOUR, "d", 20))
        self.assertEqual(activity.activities(FIRST, "abb", 20), activity.activities(FIRST, "a", 20))

    def test_short_words_have_no_activity_from_their_depth_on(self):
        rng = random.Random(163)
        for _ in range(30):
            machine = short_machine(rng, rng.choice((2, 3)), rng.randint(1, 6))
            word = support.some_word(rng, machine, 4)
            depth = wordmachine.depth(machine, word)
            found = activity.activities(machine, word, 10)
            self.assertEqual(found[depth:], [0] * (11 - depth))
            self.assertNotIn(0, found[:depth])

    def test_levels(self):
        for function in (activity.activity, activity.activities):
            for level in (-1, 201, 1000, GREAT, -GREAT):
                self.assertRaises(BadNumber, function, EXAMPLE, "a", level)
            self.assertRaises(BadNumber, function, *OVER_LIMIT, -1)

    def test_results_are_not_shared(self):
        found = activity.activities(EXAMPLE, "a", 2)
        found.append(9)
        self.assertEqual(activity.activities(EXAMPLE, "a", 2), [1, 1, 1])


class Series(unittest.TestCase):
    """[163]."""

    def test_known_fractions(self):
        """[168] among them."""
        self.assertEqual(activity.series(EXAMPLE, "a"), ([1], [1, -1]))
        self.assertEqual(activity.series(EXAMPLE, "aa"), ([1, 1], [1, -1]))
        for word in ("", "b", "bB", "abA"):
            self.assertEqual(activity.series(EXAMPLE, word), ([], [1]))
        self.assertEqual(activity.series(FOUR, "a"), ([1], [1]))
        self.assertEqual(activity.series(FOUR, "b"), ([1, 2, 2], [1, 0, 0, -1]))
        self.assertEqual(activity.series(STAIRS, "c"), ([1], [1, -2, 1]))
        self.assertEqual(activity.series(support.FREE, "a"), ([1], [1, -2]))

    def test_short_words_have_polynomials(self):
        rng = random.Random(164)
        for _ in range(30):
            machine = short_machine(rng, rng.choice((2, 3)), rng.randint(1, 6))
            word = support.some_word(rng, machine, 4)
            depth = wordmachine.depth(machine, word)
            self.assertEqual(activity.series(machine, word), (activity.activities(machine, word, 10)[:depth], [1]))

    def test_the_series_and_the_common_divisors(self):
        rng = random.Random(165)
        lengths = {}
        chosen = some_pairs(165, 8, 4) + [ROWS_40]
        for _ in range(60):
            machine = leading_down(rng, rng.choice((2, 3)), rng.randint(2, 7))
            chosen.append((machine, support.some_word(rng, machine, 3)))
        for machine, word in chosen:
            rows = wordmachine.section_count(machine, word)
            if rows > 40:
                self.assertRaises(TooLarge, activity.series, machine, word)
                continue
            above, below = activity.series(machine, word)
            self.assertEqual(series_of((above, below), 100), activity.activities(machine, word, 99))
            self.assertEqual(below[0], 1)
            self.assertTrue(all([isinstance(number, int) for number in above + below]))
            self.assertTrue(above == [] or above[-1] != 0)
            self.assertNotEqual(below[-1], 0)
            self.assertEqual(common_degree(below, above), 0)
            lengths[(len(above), len(below))] = True
        self.assertGreater(len(lengths), 12)

    def test_40_rows(self):
        self.assertEqual(wordmachine.section_count(*ROWS_40), 40)
        self.assertEqual(wordmachine.section_count(*ROWS_41), 41)
        self.assertEqual(series_of(activity.series(*ROWS_40), 150), activity.activities(*ROWS_40, 149))
        self.assertRaises(TooLarge, activity.series, *ROWS_41)

    def test_results_are_not_shared(self):
        above, below = activity.series(EXAMPLE, "a")
        above.append(9)
        below.append(9)
        self.assertEqual(activity.series(EXAMPLE, "a"), ([1], [1, -1]))


class Degrees(unittest.TestCase):
    """[164], [165] and [166]."""

    def test_known_degrees(self):
        """[168] among them."""
        for machine, word, expected in ((EXAMPLE, "a", 0), (EXAMPLE, "b", -1), (EXAMPLE, "", -1), (EXAMPLE, "aA", -1),
                                        (EXAMPLE, "aaa", 0), (FOUR, "a", -1), (FOUR, "b", 0), (FOUR, "bcd", -1),
                                        (support.FREE, "a", None), (support.LAMPS, "a", None),
                                        (support.LAMPS, "aA", -1), (EXAMPLE, "a" * 60, 0)):
            self.assertEqual(activity.degree(machine, word), expected)
            self.assertIs(activity.is_bounded(machine, word), expected is not None and expected <= 0)
        for state in range(2, 8):
            self.assertEqual(activity.degree(STAIRS, "abcdefgh"[state]), state - 1)
            self.assertEqual(activity.degree(STAIRS, "ABCDEFGH"[state]), state - 1)
            self.assertIs(activity.is_bounded(STAIRS, "abcdefgh"[state]), False)
        self.assertEqual(activity.degree(STAIRS, "cd"), 2)
        self.assertEqual(activity.degree(STAIRS, "cC"), -1)

    def test_two_arrows_from_one_row_to_the_same_row(self):
        # A row with two arrows to itself, and one with two arrows to a row that leads back.
        machine = (3, (((1, 0), (0, 0), (2, 1)), ((0, 1), (1, 1), (2, 1))))
        self.assertEqual(active_arrows(machine, "a"), {0: [0, 0]})
        self.assertIsNone(activity.degree(machine, "a"))
        self.assertIs(activity.is_bounded(machine, "a"), False)
        machine = (3, (((1, 1), (0, 1), (2, 2)), ((0, 0), (1, 2), (2, 2)), ((0, 2), (1, 2), (2, 2))))
        self.assertEqual(active_arrows(machine, "a"), {0: [1, 1], 1: [0]})
        self.assertIsNone(activity.degree(machine, "a"))
        # Two arrows that lead on are no two circles.
        machine = (3, (((1, 1), (0, 1), (2, 2)), ((1, 1), (0, 2), (2, 2)), ((0, 2), (1, 2), (2, 2))))
        self.assertEqual(active_arrows(machine, "a"), {0: [1, 1], 1: [1]})
        self.assertEqual(activity.degree(machine, "a"), 0)

    def test_against_all_circles(self):
        rng = random.Random(166)
        found = {}
        chosen = some_pairs(167, 6, 3) + [(STAIRS, support.some_word(rng, STAIRS, 2)) for _ in range(15)]
        for _ in range(250):
            states = rng.randint(2, 6)
            machine = leading_down(rng, rng.choice((2, 3)), states)
            chosen.append((machine, "a" + support.some_word(rng, machine, 1)))
        for machine, word in chosen:
            if wordmachine.section_count(machine, word) <= 14:
                expected = degree_slowly(machine, word)
                self.assertEqual(activity.degree(machine, word), expected)
                found[expected] = found.get(expected, 0) + 1
        self.assertTrue(all([found.get(degree, 0) > 2 for degree in (-1, 0, 1, 2, None)]), found)

    def test_the_powers_of_the_levels(self):
        """[165]."""
        for machine, word in [(STAIRS, "cdef"[state]) for state in range(4)] + [(EXAMPLE, "aa"), (FOUR, "bc")]:
            degree = activity.degree(machine, word)
            found = activity.activities(machine, word, 200)
            self.assertTrue(all([found[n] <= 10 * n ** degree for n in range(1, 201)]))
            if degree > 0:
                self.assertGreater(found[200] // found[50], 4 ** (degree - 1))

    def test_undone_words_and_products(self):
        """[166]."""
        rng = random.Random(168)
        for _ in range(80):
            machine = leading_down(rng, 2, rng.randint(2, 5))
            word = support.some_word(rng, machine, 2)
            other = support.some_word(rng, machine, 2)
            own, others = activity.degree(machine, word), activity.degree(machine, other)
            self.assertEqual(activity.degree(machine, support.undone_slowly(word)), own)
            if own is not None and others is not None:
                self.assertLessEqual(activity.degree(machine, word + other), max(own, others))

    def test_machine_degrees(self):
        self.assertEqual(activity.machine_degree(EXAMPLE), 0)
        self.assertEqual(activity.machine_degree(FOUR), 0)
        self.assertEqual(activity.machine_degree(STAIRS), 6)
        self.assertEqual(activity.machine_degree((2, (((0, 0), (1, 0)),))), -1)
        self.assertIsNone(activity.machine_degree(support.FREE))
        machine = (3, (((1, 0), (0, 0), (2, 1)), ((0, 1), (1, 1), (2, 1))))
        self.assertIsNone(activity.machine_degree(machine))
        for machine in support.some_machines(169, 60, 8):
            degrees = [activity.degree(machine, letter) for letter in "abcdefgh"[:len(machine[1])]]
            expected = None if None in degrees else max(degrees)
            self.assertEqual(activity.machine_degree(machine), expected)
        for machine in tuple(WRONG.values()) + (NINE,):
            self.assertRaises(NotMachine, activity.machine_degree, machine)


def leading_down(rng, k, states):
    """A machine whose states stay, or lead to states behind them, and at last to one at rest."""
    rows = []
    for state in range(states - 1):
        outs = list(range(k))
        rng.shuffle(outs)
        after = [rng.randint(state + 1, states - 1) for _ in range(k)]
        after[rng.randrange(k)] = state
        if rng.random() < 0.1:
            after[rng.randrange(k)] = state
        rows.append(tuple(zip(outs, after)))
    return (k, tuple(rows) + (tuple([(x, states - 1) for x in range(k)]),))


class Errors(unittest.TestCase):
    CALLS = ((activity.activity, (-1,)), (activity.activities, (201,)), (activity.series, ()), (activity.degree, ()),
             (activity.is_bounded, ()))

    def test_no_machine_and_no_word(self):
        for function, values in self.CALLS:
            for machine in tuple(WRONG.values()) + (NINE,):
                self.assertRaises(NotMachine, function, machine, "z", *values)
            for word in NO_WORDS:
                self.assertRaises(NotWord, function, FIRST, word, *values)

    def test_1000_section_words(self):
        for machine, word in (OVER_LIMIT, OVER_LIMIT_FEW):
            for function, values in ((activity.activity, (0,)), (activity.activities, (0,)), (activity.series, ()),
                                     (activity.degree, ()), (activity.is_bounded, ())):
                self.assertRaises(TooLarge, function, machine, word, *values)
        machine, word = AT_LIMIT_FEW
        self.assertEqual(activity.activity(machine, word, 2), activity_slowly(machine, word, 2))
        self.assertEqual(series_of(activity.series(machine, word), 50), activity.activities(machine, word, 49))

    def test_long_products(self):
        for letters in itertools.product("abcdefgh", repeat=2):
            self.assertIsNotNone(activity.degree(STAIRS, "".join(letters)))


if __name__ == "__main__":
    unittest.main()
