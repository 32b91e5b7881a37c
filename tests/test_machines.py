import random
import unittest

import support
from leafturner import machines
from leafturner.errors import BadNumber, NotMachine, NotString, TooLarge

FIRST = support.FIRST
REST = ((0, 0), (1, 0))

# Pairs with one thing wrong.
WRONG = {
    "one digit": (1, (((0, 0),),)),
    "five digits": (5, (tuple([(x, 0) for x in range(5)]),)),
    "no digits": (0, ((),)),
    "less than no digits": (-2, (REST,)),
    "no states": (2, ()),
    "201 states": support.cycle(2, 201),
    "an entry left out": (2, (((0, 0),),)),
    "an entry more": (2, (((0, 0), (1, 0), (2, 0)),)),
    "an entry twice": (2, (((0, 0), (1, 0), (1, 0)),)),
    "no entries": (2, ((),)),
    "a digit written twice": (2, (((1, 0), (1, 0)),)),
    "a digit too great": (2, (((0, 0), (2, 0)),)),
    "a digit negative": (2, (((0, 0), (-1, 0)),)),
    "a next state too great": (2, (((0, 0), (1, 1)),)),
    "a next state negative": (2, (((0, -1), (1, 0)),)),
    "wrong in the last row": (2, (REST, REST, ((0, 0), (1, 3)))),
    "fewer digits than entries": (2, (((0, 0), (1, 0), (2, 0)), ((0, 0), (1, 0), (2, 0)))),
    "more digits than entries": (3, (REST,)),
}


class Forms(unittest.TestCase):
    """[1] and [2]."""

    def test_wide_machines(self):
        for k in (2, 3, 4):
            for states in (1, 7, 8, 9, 10, 200):
                machine = support.cycle(k, states)
                self.assertIs(machines.is_wide(machine), True)
                self.assertIsNone(machines.check_wide(machine))

    def test_machines_have_at_most_eight_states(self):
        for k in (2, 3, 4):
            for states in (1, 7, 8):
                self.assertIs(machines.is_machine(support.cycle(k, states)), True)
                self.assertIsNone(machines.check_machine(support.cycle(k, states)))
            for states in (9, 10, 200):
                self.assertIs(machines.is_machine(support.cycle(k, states)), False)
                with self.assertRaises(NotMachine):
                    machines.check_machine(support.cycle(k, states))

    def test_wrong_pairs(self):
        for name, machine in WRONG.items():
            with self.subTest(name):
                self.assertIs(machines.is_wide(machine), False)
                self.assertIs(machines.is_machine(machine), False)
                self.assertRaises(NotMachine, machines.check_wide, machine)
                self.assertRaises(NotMachine, machines.check_machine, machine)

    def test_strings(self):
        for k in (2, 3, 4):
            machine = support.cycle(k, 9)
            for string in ("", "0", "1", str(k - 1), "01" * 30, "0" * 60):
                self.assertIs(machines.is_string(machine, string), True)
                self.assertIsNone(machines.check_string(k, string))
            wrong = (str(k), "9", "0" * 61, "01" * 31, "a", "A", " ", "0 1", "-", "-1", "0\n", "00" + str(k),
                     "\u0661", "\u00b2", "/", ":")
            for string in wrong:
                self.assertIs(machines.is_string(machine, string), False, string)
                self.assertRaises(NotString, machines.check_string, k, string)

    def test_is_string_of_no_machine(self):
        for machine in WRONG.values():
            self.assertRaises(NotMachine, machines.is_string, machine, "0")


class Images(unittest.TestCase):
    """[3] and [4]."""

    def test_the_example(self):
        self.assertEqual(machines.image(FIRST, 0, "110"), "001")
        self.assertEqual(machines.image(FIRST, 1, "110"), "110")
        self.assertEqual(machines.state_behind(FIRST, 0, "110"), 1)
        self.assertEqual(machines.state_behind(FIRST, 0, "111"), 0)

    def test_the_empty_string(self):
        for machine in support.MACHINES:
            for state in range(len(machine[1])):
                self.assertEqual(machines.image(machine, state, ""), "")
                self.assertEqual(machines.state_behind(machine, state, ""), state)

    def test_images_follow_the_states(self):
        rng = random.Random(3)
        for machine in support.some_machines(3, 30, 12):
            state = rng.randrange(len(machine[1]))
            string = support.some_string(rng, machine[0], 60)
            self.assertEqual(machines.image(machine, state, string), support.image_by_state(machine, state, string))

    def test_sixty_digits(self):
        self.assertEqual(machines.image(FIRST, 0, "1" * 60), "0" * 60)
        self.assertEqual(machines.state_behind(support.cycle(4, 200), 150, "3" * 60), 10)

    def test_the_image_of_a_beginning(self):
        for machine in support.MACHINES:
            string = "0110" * 15
            whole = machines.image(machine, 0, string)
            for length in range(61):
                self.assertEqual(machines.image(machine, 0, string[:length]), whole[:length])

    def test_each_string_is_the_image_of_one(self):
        for machine in support.MACHINES:
            for state in range(len(machine[1])):
                for length in range(5):
                    strings = support.strings_of_length(machine[0], length)
                    images = [machines.image(machine, state, string) for string in strings]
                    self.assertEqual(sorted(images), strings)

    def test_a_string_leads_on_from_where_its_beginning_leads(self):
        rng = random.Random(4)
        for machine in support.some_machines(4, 20, 9):
            u = support.some_string(rng, machine[0], 20)
            v = support.some_string(rng, machine[0], 20)
            middle = machines.state_behind(machine, 0, u)
            self.assertEqual(machines.state_behind(machine, 0, u + v), machines.state_behind(machine, middle, v))
            self.assertEqual(machines.image(machine, 0, u + v),
                             machines.image(machine, 0, u) + machines.image(machine, middle, v))

    def test_errors_in_their_order(self):
        for function in (machines.image, machines.state_behind):
            for machine in WRONG.values():
                self.assertRaises(NotMachine, function, machine, 0, "0")
                self.assertRaises(NotMachine, function, machine, -1, "x")
            for state in (-1, 2, 200, support.GREAT, -support.GREAT):
                self.assertRaises(BadNumber, function, FIRST, state, "0")
                self.assertRaises(BadNumber, function, FIRST, state, "x")
            for string in ("2", "x", "0" * 61):
                self.assertRaises(NotString, function, FIRST, 1, string)


class Undoing(unittest.TestCase):
    """[5]."""

    def test_the_example(self):
        self.assertEqual(machines.undoing(FIRST), (2, (((1, 0), (0, 1)), ((0, 1), (1, 1)))))

    def test_three_digits(self):
        machine = (3, (((1, 1), (2, 0), (0, 2)), ((0, 0), (1, 1), (2, 2)), ((2, 2), (1, 1), (0, 0))))
        undone = (3, (((2, 2), (0, 1), (1, 0)), ((0, 0), (1, 1), (2, 2)), ((2, 0), (1, 1), (0, 2))))
        self.assertEqual(machines.undoing(machine), undone)

    def test_what_a_state_did_is_taken_back(self):
        for machine in support.MACHINES + tuple(support.some_machines(5, 10, 12)):
            undone = machines.undoing(machine)
            self.assertEqual(machines.undoing(undone), machine)
            self.assertEqual(len(undone[1]), len(machine[1]))
            for state in range(len(machine[1])):
                for string in support.strings_of_length(machine[0], 4):
                    image = machines.image(machine, state, string)
                    self.assertEqual(machines.image(undone, state, image), string)

    def test_200_states(self):
        machine = support.cycle(4, 200)
        self.assertEqual(machines.undoing(machines.undoing(machine)), machine)

    def test_errors(self):
        for machine in WRONG.values():
            self.assertRaises(NotMachine, machines.undoing, machine)


class Behind(unittest.TestCase):
    """[6]."""

    def test_the_numbering(self):
        # (0, 0) goes on in (1, 0) at 0 and in (0, 1) at 1; both have to be found in this order.
        made = machines.behind(FIRST, 0, FIRST, 0)
        self.assertEqual(made, (2, (((0, 1), (1, 2)), ((1, 3), (0, 1)), ((1, 3), (0, 2)), ((0, 3), (1, 3)))))

    def test_only_reached_pairs(self):
        self.assertEqual(machines.behind(FIRST, 1, FIRST, 1), (2, (((0, 0), (1, 0)),)))
        self.assertEqual(machines.behind(FIRST, 1, FIRST, 0), FIRST)
        self.assertEqual(machines.behind(FIRST, 0, FIRST, 1), FIRST)

    def test_the_first_state_and_then_the_second_one(self):
        rng = random.Random(6)
        for _ in range(30):
            k = rng.choice((2, 3, 4))
            one = support.some_machine(rng, k, rng.randint(1, 10))
            other = support.some_machine(rng, k, rng.randint(1, 10))
            s = rng.randrange(len(one[1]))
            t = rng.randrange(len(other[1]))
            made = machines.behind(one, s, other, t)
            self.assertTrue(machines.is_wide(made))
            for string in support.strings_of_length(k, 4):
                image = machines.image(other, t, machines.image(one, s, string))
                self.assertEqual(machines.image(made, 0, string), image)

    def test_the_states_stand_in_the_order_of_the_first_strings(self):
        for one in support.MACHINES[:4]:
            for other in support.MACHINES[:4]:
                made = machines.behind(one, 0, other, len(other[1]) - 1)
                found = []
                for string in support.strings_up_to(2, 8):
                    state = machines.state_behind(made, 0, string)
                    if state not in found:
                        found.append(state)
                self.assertEqual(found, list(range(len(made[1]))))

    def test_up_to_200_states(self):
        self.assertEqual(len(machines.behind(support.cycle(2, 8), 3, support.cycle(2, 25), 4)[1]), 200)
        self.assertEqual(len(machines.behind(support.cycle(2, 200), 0, support.cycle(2, 200), 7)[1]), 200)
        self.assertRaises(TooLarge, machines.behind, support.cycle(2, 3), 0, support.cycle(2, 67), 0)
        self.assertRaises(TooLarge, machines.behind, support.cycle(4, 199), 0, support.cycle(4, 200), 0)

    def test_errors_in_their_order(self):
        wide = support.cycle(3, 67)
        for machine in WRONG.values():
            self.assertRaises(NotMachine, machines.behind, machine, -1, FIRST, -1)
            self.assertRaises(NotMachine, machines.behind, FIRST, -1, machine, -1)
        for s, t in ((-1, 0), (2, 0), (0, -1), (0, 67), (2, 67), (support.GREAT, 0), (0, -support.GREAT)):
            self.assertRaises(BadNumber, machines.behind, FIRST, s, wide, t)
        self.assertRaises(BadNumber, machines.behind, FIRST, 0, wide, 0)
        self.assertRaises(BadNumber, machines.behind, support.cycle(2, 200), 0, support.cycle(3, 199), 0)
        self.assertRaises(BadNumber, machines.behind, support.cycle(2, 200), 0, support.cycle(2, 199), 199)


class Renaming(unittest.TestCase):
    """[7]."""

    def test_digits(self):
        self.assertEqual(machines.with_digits(FIRST, (1, 0)), (2, (((1, 0), (0, 1)), ((0, 1), (1, 1)))))
        machine = (3, (((1, 1), (2, 0), (0, 1)), ((0, 0), (1, 1), (2, 0))))
        # What was done with 0, 1, 2 is done with 2, 0, 1.
        renamed = (3, (((1, 0), (2, 1), (0, 1)), ((0, 1), (1, 0), (2, 0))))
        self.assertEqual(machines.with_digits(machine, (2, 0, 1)), renamed)

    def test_states(self):
        self.assertEqual(machines.with_states(FIRST, (1, 0)), (2, (((0, 0), (1, 0)), ((1, 0), (0, 1)))))
        machine = (2, (((1, 1), (0, 2)), ((0, 1), (1, 0)), ((0, 2), (1, 2))))
        # The states 0, 1, 2 become 2, 0, 1.
        renamed = (2, (((0, 0), (1, 2)), ((0, 1), (1, 1)), ((1, 0), (0, 1))))
        self.assertEqual(machines.with_states(machine, (2, 0, 1)), renamed)

    def test_arrangements_that_change_nothing(self):
        for machine in support.MACHINES:
            self.assertEqual(machines.with_digits(machine, tuple(range(machine[0]))), machine)
            self.assertEqual(machines.with_states(machine, tuple(range(len(machine[1])))), machine)

    def test_what_the_renamed_machines_do(self):
        rng = random.Random(7)
        for machine in support.some_machines(7, 20, 9):
            k = machine[0]
            p = tuple(rng.sample(range(k), k))
            q = tuple(rng.sample(range(len(machine[1])), len(machine[1])))
            digits = machines.with_digits(machine, p)
            states = machines.with_states(machine, q)
            table = str.maketrans("0123"[:k], "".join([str(digit) for digit in p]))
            for state in range(len(machine[1])):
                for string in support.strings_of_length(k, 3):
                    image = machines.image(machine, state, string)
                    self.assertEqual(machines.image(digits, state, string.translate(table)), image.translate(table))
                    self.assertEqual(machines.image(states, q[state], string), image)
                    self.assertEqual(machines.state_behind(states, q[state], string),
                                     q[machines.state_behind(machine, state, string)])

    def test_no_arrangements(self):
        for p in ((), (0,), (0, 1, 2), (0, 0), (1, 1), (0, 2), (1, 2), (0, -1), (-1, 1), (0, 1, 1), (0, support.GREAT)):
            self.assertRaises(BadNumber, machines.with_digits, FIRST, p)
            self.assertRaises(BadNumber, machines.with_states, FIRST, p)
        self.assertRaises(BadNumber, machines.with_states, support.cycle(2, 200), (1, 0))
        self.assertRaises(BadNumber, machines.with_digits, support.cycle(4, 3), (2, 0, 1))

    def test_no_machine(self):
        for machine in WRONG.values():
            for p in ((0, 1), (0, 0)):
                self.assertRaises(NotMachine, machines.with_digits, machine, p)
                self.assertRaises(NotMachine, machines.with_states, machine, p)


if __name__ == "__main__":
    unittest.main()
