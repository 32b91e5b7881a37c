import random
import unittest

import support
from leafturner import least, machines
from leafturner.errors import BadNumber, NotMachine
from test_machines import WRONG

FIRST = support.FIRST
REST = (2, (((0, 0), (1, 0)),))
# The states 0 and 3 are alike, 1 and 2 are, and from 0 the state 4 is not reached.
TWINS = (2, (((1, 2), (0, 3)), ((0, 1), (1, 2)), ((0, 2), (1, 1)), ((1, 1), (0, 0)), ((0, 0), (1, 3))))


def first_apart_slowly(one, s, other, t, most):
    for string in support.strings_up_to(one[0], most):
        if support.image_by_state(one, s, string) != support.image_by_state(other, t, string):
            return string
    return None


def chain(k, states):
    """A wide machine whose state 0 changes a digit only behind `states` - 2 digits; the last state rests."""
    rows = []
    for state in range(states):
        shift = 1 if state == states - 2 else 0
        rows.append(tuple([((x + shift) % k, min(state + 1, states - 1)) for x in range(k)]))
    return (k, tuple(rows))


class Reached(unittest.TestCase):
    """[4] and [9]."""

    def test_reached(self):
        self.assertEqual(least.reached(FIRST, 0), [0, 1])
        self.assertEqual(least.reached(FIRST, 1), [1])
        self.assertEqual(least.reached(TWINS, 0), [0, 2, 3, 1])
        self.assertEqual(least.reached(TWINS, 2), [2, 1])
        self.assertEqual(least.reached(TWINS, 4), [4, 0, 3, 2, 1])
        self.assertEqual(least.reached(support.cycle(3, 200), 198), [198, 199] + list(range(198)))

    def test_the_order_of_the_first_strings(self):
        for machine in support.some_machines(8, 20, 5):
            for state in range(len(machine[1])):
                found = []
                for string in support.strings_up_to(machine[0], 5):
                    after = machines.state_behind(machine, state, string)
                    if after not in found:
                        found.append(after)
                self.assertEqual(least.reached(machine, state), found)

    def test_trimmed(self):
        self.assertEqual(least.trimmed(FIRST, 0), FIRST)
        self.assertEqual(least.trimmed(FIRST, 1), REST)
        trimmed = (2, (((1, 1), (0, 2)), ((0, 1), (1, 3)), ((1, 3), (0, 0)), ((0, 3), (1, 1))))
        self.assertEqual(least.trimmed(TWINS, 0), trimmed)

    def test_trimmed_machines_do_the_same(self):
        for machine in support.some_machines(9, 20, 9):
            for state in range(len(machine[1])):
                trimmed = least.trimmed(machine, state)
                self.assertEqual(len(trimmed[1]), len(least.reached(machine, state)))
                self.assertEqual(least.reached(trimmed, 0), list(range(len(trimmed[1]))))
                for string in support.strings_of_length(machine[0], 4):
                    self.assertEqual(machines.image(trimmed, 0, string), machines.image(machine, state, string))

    def test_results_are_not_shared(self):
        found = least.reached(TWINS, 0)
        found.append(7)
        self.assertEqual(least.reached(TWINS, 0), [0, 2, 3, 1])


class Least(unittest.TestCase):
    """[9]."""

    def test_states_that_are_alike_are_one(self):
        self.assertEqual(least.least(TWINS, 0), FIRST)
        self.assertEqual(least.least(TWINS, 3), FIRST)
        self.assertEqual(least.least(TWINS, 1), REST)
        self.assertEqual(least.least(TWINS, 4), (2, (((0, 1), (1, 1)), ((1, 2), (0, 1)), ((0, 2), (1, 2)))))

    def test_many_states(self):
        rest = (3, tuple([tuple([(x, (state + 1) % 200) for x in range(3)]) for state in range(200)]))
        self.assertEqual(least.least(rest, 77), (3, (((0, 0), (1, 0), (2, 0)),)))
        self.assertEqual(least.least(support.cycle(2, 200), 0), support.cycle(2, 200))
        self.assertEqual(len(least.least(chain(2, 200), 0)[1]), 200)

    def test_the_least_machine_of_a_least_machine(self):
        for machine in support.MACHINES + tuple(support.some_machines(10, 20, 9)):
            for state in range(len(machine[1])):
                small = least.least(machine, state)
                self.assertTrue(machines.is_wide(small))
                self.assertEqual(least.least(small, 0), small)
                self.assertEqual(least.reached(small, 0), list(range(len(small[1]))))

    def test_its_states_do_the_same_and_are_not_alike(self):
        for machine in (TWINS,) + support.MACHINES + tuple(support.some_machines(11, 10, 4)):
            for state in range(len(machine[1])):
                small = least.least(machine, state)
                for string in support.strings_of_length(machine[0], 5):
                    self.assertEqual(machines.image(small, 0, string), machines.image(machine, state, string))
                for p in range(len(small[1])):
                    for q in range(p):
                        self.assertIsNotNone(first_apart_slowly(small, p, small, q, 5))

    def test_renamed_states_have_the_same_least_machine(self):
        rng = random.Random(12)
        for machine in support.some_machines(12, 20, 9):
            q = tuple(rng.sample(range(len(machine[1])), len(machine[1])))
            renamed = machines.with_states(machine, q)
            for state in range(len(machine[1])):
                self.assertEqual(least.least(renamed, q[state]), least.least(machine, state))


class Apart(unittest.TestCase):
    """[8] and [9]."""

    def test_one_machine(self):
        self.assertIs(least.are_alike(TWINS, 0, TWINS, 3), True)
        self.assertIs(least.are_alike(TWINS, 1, TWINS, 2), True)
        self.assertIs(least.are_alike(TWINS, 0, TWINS, 1), False)
        self.assertIsNone(least.first_apart(TWINS, 0, TWINS, 3))
        self.assertIsNone(least.first_apart(TWINS, 4, TWINS, 4))
        self.assertEqual(least.first_apart(TWINS, 0, TWINS, 1), "0")
        self.assertEqual(least.first_apart(TWINS, 4, TWINS, 1), "00")

    def test_two_machines(self):
        self.assertIs(least.are_alike(TWINS, 3, FIRST, 0), True)
        self.assertIs(least.are_alike(FIRST, 0, TWINS, 4), False)
        self.assertIsNone(least.first_apart(FIRST, 1, REST, 0))
        self.assertEqual(least.first_apart(FIRST, 0, REST, 0), "0")
        self.assertEqual(least.first_apart(support.cycle(2, 5), 1, REST, 0), "00000")

    def test_the_first_digit_is_not_always_0(self):
        one = (3, (((0, 0), (1, 1), (2, 1)), ((0, 1), (2, 1), (1, 1))))
        rest = (3, (((0, 0), (1, 0), (2, 0)),))
        self.assertEqual(least.first_apart(one, 0, rest, 0), "11")
        self.assertEqual(least.first_apart(one, 1, rest, 0), "1")

    def test_the_first_string_in_order(self):
        rng = random.Random(13)
        lengths = {}
        for _ in range(150):
            k = rng.choice((2, 3))
            one = support.some_machine(rng, k, rng.randint(1, 3))
            # A machine that differs in one entry alone is not told apart at once.
            rows = [list(row) for row in one[1]]
            s, x = rng.randrange(len(rows)), rng.randrange(k)
            rows[s][x] = (rows[s][x][0], rng.randrange(len(rows)))
            other = (k, tuple([tuple(row) for row in rows]))
            found = least.first_apart(one, 0, other, 0)
            self.assertEqual(found, first_apart_slowly(one, 0, other, 0, 6))
            self.assertEqual(least.are_alike(one, 0, other, 0), found is None)
            lengths[None if found is None else len(found)] = True
        self.assertGreaterEqual(len(lengths), 4)

    def test_alike_exactly_if_the_least_machines_are_equal(self):
        for machine in (TWINS,) + tuple(support.some_machines(14, 20, 9)):
            for s in range(len(machine[1])):
                for t in range(len(machine[1])):
                    equal = least.least(machine, s) == least.least(machine, t)
                    self.assertIs(least.are_alike(machine, s, machine, t), equal)

    def test_long_strings(self):
        rest = (2, tuple([((0, (s + 1) % 199), (1, (s + 1) % 199)) for s in range(199)]))
        self.assertEqual(least.first_apart(chain(2, 200), 0, rest, 5), "0" * 199)
        still = (2, tuple([((0, (s + 1) % 200), (1, (s + 1) % 200)) for s in range(200)]))
        self.assertIsNone(least.first_apart(still, 0, rest, 0))
        # 199 states in a circle against 200: the digit 0 is changed at the places 0, 199, .. and 0, 200, ..
        self.assertEqual(least.first_apart(support.cycle(2, 199), 0, support.cycle(2, 200), 0), "0" * 200)

    def test_fewer_digits_than_both_have_states(self):
        for machine in support.some_machines(15, 30, 6):
            for s in range(len(machine[1])):
                found = least.first_apart(machine, s, machine, 0)
                self.assertTrue(found is None or len(found) < 2 * len(machine[1]))


class Errors(unittest.TestCase):
    def test_functions_of_one_state(self):
        for function in (least.reached, least.trimmed, least.least):
            for machine in WRONG.values():
                self.assertRaises(NotMachine, function, machine, 0)
                self.assertRaises(NotMachine, function, machine, -1)
            for state in (-1, 2, 200, support.GREAT, -support.GREAT):
                self.assertRaises(BadNumber, function, FIRST, state)

    def test_functions_of_two_states(self):
        for function in (least.are_alike, least.first_apart):
            for machine in WRONG.values():
                self.assertRaises(NotMachine, function, machine, -1, FIRST, -1)
                self.assertRaises(NotMachine, function, FIRST, -1, machine, -1)
            for s, t in ((-1, 0), (2, 0), (0, -1), (0, 1), (-1, -1), (support.GREAT, 0), (0, -support.GREAT)):
                self.assertRaises(BadNumber, function, FIRST, s, REST, t)
                self.assertRaises(BadNumber, function, FIRST, s, (3, (((0, 0), (1, 0), (2, 0)),)), t)
            self.assertRaises(BadNumber, function, FIRST, 0, support.THREE_DIGITS, 0)
            self.assertRaises(BadNumber, function, support.FOUR_DIGITS, 0, support.THREE_DIGITS, 0)


if __name__ == "__main__":
    unittest.main()
