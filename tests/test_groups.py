import random
import unittest

import support
from leafturner import groups, levels
from leafturner.errors import BadNumber, NotMachine, NotWord, TooLarge
from test_levels import GREATEST, numbers_slowly
from test_machines import WRONG
from test_words import NINE, NO_WORDS

FIRST = support.FIRST
FOUR = support.FOUR_STATES
GREAT = support.GREAT

# Words whose groups on the level 2 have 4608 and 5184 members.
UP_TO_5000 = ((4, (((2, 0), (0, 1), (3, 0), (1, 0)), ((1, 1), (3, 1), (2, 0), (0, 1)))), ["aa", "BBB"])
OVER_5000 = ((4, (((1, 2), (3, 0), (2, 1), (0, 0)), ((0, 3), (2, 0), (3, 0), (1, 3)), ((1, 3), (0, 2), (3, 2), (2, 2)),
                  ((0, 1), (1, 1), (2, 3), (3, 2)))), ["d", "A", ""])


def some_lists(seed, count, most):
    """Machines with lists of 0 to 3 words."""
    rng = random.Random(seed)
    chosen = support.MACHINES + tuple(support.some_machines(seed, 10, 4))
    return [(machine, [support.some_word(rng, machine, most) for _ in range(many)])
            for machine in chosen for many in (0, 1, 2, 3) for _ in range(count)]


def orbits_slowly(turns, count):
    classes = [{number} for number in range(count)]
    for turn in turns:
        for x, y in enumerate(turn):
            one = [each for each in classes if x in each or y in each]
            classes = [each for each in classes if each not in one] + [set.union(*one)]
    return sorted([sorted(each) for each in classes])


def members_slowly(turns, count, most):
    found = {tuple(range(count))}
    ring = list(found)
    while ring:
        made = []
        for member in ring:
            for turn in turns:
                product = tuple([turn[x] for x in member])
                if product not in found:
                    found.add(product)
                    made.append(product)
        if len(found) > most:
            return None
        ring = made
    return sorted(found)


class Orbits(unittest.TestCase):
    """[103]."""

    def test_known_orbits(self):
        self.assertEqual(groups.orbits(FIRST, ["a"], 2), [[0, 1, 2, 3]])
        self.assertEqual(groups.orbits(FIRST, ["aa"], 2), [[0, 1], [2, 3]])
        self.assertEqual(groups.orbits(FIRST, ["aa", "b"], 2), [[0, 1], [2, 3]])
        self.assertEqual(groups.orbits(FIRST, ["aa", "A"], 2), [[0, 1, 2, 3]])
        # Two words of which each leaves strings to the other one.
        self.assertEqual(groups.orbits(FOUR, ["b", "c"], 2), [[0, 1], [2], [3]])
        self.assertEqual(groups.orbits(FOUR, ["a", "b"], 2), [[0, 1, 2, 3]])

    def test_no_words(self):
        for machine in support.MACHINES:
            for level in range(4):
                expected = [[number] for number in range(machine[0] ** level)]
                self.assertEqual(groups.orbits(machine, [], level), expected)
            self.assertEqual(groups.orbits(machine, [], 0), [[0]])

    def test_against_joining_classes(self):
        for machine, words in some_lists(109, 2, 3):
            for level in range(4):
                turns = [numbers_slowly(machine, word, level) for word in words]
                self.assertEqual(groups.orbits(machine, words, level), orbits_slowly(turns, machine[0] ** level))

    def test_orbits_lie_over_orbits(self):
        for machine, words in some_lists(110, 2, 3):
            k = machine[0]
            for level in range(3):
                below = groups.orbits(machine, words, level)
                for orbit in groups.orbits(machine, words, level + 1):
                    under = sorted(set([number // k for number in orbit]))
                    self.assertIn(under, below)
                    self.assertEqual(len(orbit) % len(under), 0)
                    self.assertIn(len(orbit) // len(under), range(1, k + 1))

    def test_one_word_has_its_cycles(self):
        for machine, words in some_lists(111, 2, 4):
            for word in words:
                cycles = levels.cycles(machine, word, 3)
                self.assertEqual(groups.orbits(machine, [word], 3), [sorted(cycle) for cycle in cycles])

    def test_4096_strings(self):
        self.assertEqual(groups.orbits(FIRST, ["a"], 12), [list(range(4096))])
        self.assertEqual(len(groups.orbits(FIRST, ["a" * 60], 12)), 4)
        self.assertEqual(len(groups.orbits(support.FOUR_DIGITS, [], 6)), 4096)

    def test_results_and_arguments(self):
        words = ["aa", "b"]
        found = groups.orbits(FIRST, words, 2)
        found[0].append(9)
        found.pop()
        self.assertEqual(groups.orbits(FIRST, words, 2), [[0, 1], [2, 3]])
        self.assertEqual(words, ["aa", "b"])


class FirstSplits(unittest.TestCase):
    """[103]."""

    def test_known_splits(self):
        for most in range(13):
            self.assertIsNone(groups.first_split(FIRST, ["a"], most))
            self.assertEqual(groups.first_split(FIRST, ["aa"], most), 1 if most >= 1 else None)
            self.assertEqual(groups.first_split(FOUR, ["a"], most), 2 if most >= 2 else None)
            self.assertEqual(groups.first_split(FOUR, ["ab"], most), 4 if most >= 4 else None)
        self.assertEqual(groups.first_split(support.FOUR_DIGITS, [], 1), 1)
        self.assertIsNone(groups.first_split(support.FOUR_DIGITS, [], 0))
        self.assertIsNone(groups.first_split(FOUR, ["a", "b", "c", "d"], 12))

    def test_against_orbits(self):
        found = {}
        for machine, words in some_lists(112, 2, 4):
            counts = [len(groups.orbits(machine, words, level)) for level in range(5)]
            expected = [level for level in range(5) if counts[level] > 1]
            for most in range(5):
                answer = groups.first_split(machine, words, most)
                self.assertEqual(answer, expected[0] if expected and expected[0] <= most else None)
            # Where there is one orbit, there is one on each level before.
            self.assertEqual(counts, sorted(counts))
            found[expected[0] if expected else None] = True
        self.assertGreaterEqual(len(found), 3)

    def test_most(self):
        machines = {2: FIRST, 3: support.THREE_DIGITS, 4: support.FOUR_DIGITS}
        for k, greatest in GREATEST.items():
            for most in (-1, greatest + 1, 100, GREAT, -GREAT):
                self.assertRaises(BadNumber, groups.first_split, machines[k], [], most)
                self.assertRaises(BadNumber, groups.first_split, machines[k], ["a"], most)


class Members(unittest.TestCase):
    """[107]."""

    def test_the_example(self):
        """[108]."""
        for level in range(9):
            self.assertEqual(groups.size(FIRST, ["a"], level), 2 ** level)
        self.assertEqual(groups.members(FIRST, ["a"], 2), [(0, 1, 2, 3), (1, 0, 3, 2), (2, 3, 1, 0), (3, 2, 0, 1)])

    def test_no_words(self):
        for machine in support.MACHINES:
            for level in (0, 1, 3):
                rest = tuple(range(machine[0] ** level))
                self.assertEqual(groups.members(machine, [], level), [rest])
                self.assertEqual(groups.members(machine, ["", "aA"], level), [rest])
                self.assertEqual(groups.size(machine, [], level), 1)
                for number in rest:
                    self.assertEqual(groups.keepers(machine, [], level, number), [rest])

    def test_against_all_products(self):
        sizes = {}
        for machine, words in some_lists(113, 2, 3):
            for level in range(4):
                turns = [numbers_slowly(machine, word, level) for word in words]
                expected = members_slowly(turns, machine[0] ** level, 600)
                if expected is not None:
                    self.assertEqual(groups.members(machine, words, level), expected)
                    self.assertEqual(groups.size(machine, words, level), len(expected))
                    sizes[len(expected)] = True
                    for number in range(0, machine[0] ** level, 3):
                        kept = [member for member in expected if member[number] == number]
                        self.assertEqual(groups.keepers(machine, words, level, number), kept)
        self.assertGreater(len(sizes), 10)

    def test_known_sizes(self):
        # The group of the four states turns 2 strings, 4 strings in 8 ways, 8 strings in 2 ** 7 ways, and so on.
        for level, expected in enumerate((1, 2, 8, 128, 4096)):
            self.assertEqual(groups.size(FOUR, ["a", "b", "c", "d"], level), expected)
        # Two exchanges of two digits, and one of the others, make the turns and mirrorings of a square.
        self.assertEqual(groups.size(support.FOUR_DIGITS, ["a", "b"], 1), 8)
        self.assertEqual(groups.size(support.FOUR_DIGITS, ["a", "b"], 2), 4096)
        self.assertEqual(groups.size(support.THREE_DIGITS, ["a", "b"], 1), 6)

    def test_counting(self):
        for machine, words in some_lists(114, 1, 3):
            k = machine[0]
            below = 1
            for level in (1, 2):
                try:
                    many = groups.size(machine, words, level)
                except TooLarge:
                    break
                self.assertEqual(many % below, 0)
                below = many
                whole = {2: 2, 3: 6, 4: 24}[k] ** sum([k ** i for i in range(level)])
                self.assertEqual(whole % many, 0)
                for orbit in groups.orbits(machine, words, level):
                    self.assertEqual(len(groups.keepers(machine, words, level, orbit[-1])) * len(orbit), many)

    def test_up_to_5000_members(self):
        found = groups.members(FIRST, ["a"], 12)
        self.assertEqual(len(found), 4096)
        self.assertEqual(found, sorted(found))
        self.assertEqual(groups.keepers(FIRST, ["a"], 12, 77), [tuple(range(4096))])
        machine, words = UP_TO_5000
        expected = members_slowly([numbers_slowly(machine, word, 2) for word in words], 16, 5000)
        self.assertEqual(len(expected), 4608)
        self.assertEqual(groups.members(machine, words, 2), expected)
        machine, words = OVER_5000
        self.assertEqual(len(members_slowly([numbers_slowly(machine, word, 2) for word in words], 16, 6000)), 5184)
        for function, values in ((groups.members, ()), (groups.size, ()), (groups.keepers, (15,))):
            self.assertRaises(TooLarge, function, machine, words, 2, *values)
        self.assertRaises(TooLarge, groups.size, FOUR, ["a", "b", "c", "d"], 5)
        self.assertRaises(TooLarge, groups.members, support.FOUR_DIGITS, ["a", "b"], 3)

    def test_no_such_number(self):
        for number in (-1, 4, 5, GREAT, -GREAT):
            self.assertRaises(BadNumber, groups.keepers, FIRST, ["a"], 2, number)
            self.assertRaises(BadNumber, groups.keepers, FIRST, [], 2, number)
        # The number is looked at before the members are counted.
        self.assertRaises(BadNumber, groups.keepers, FOUR, ["a", "b", "c", "d"], 5, 32)
        self.assertRaises(TooLarge, groups.keepers, FOUR, ["a", "b", "c", "d"], 5, 31)

    def test_results_and_arguments(self):
        words = ["a", "b", "a"]
        found = groups.members(FIRST, words, 1)
        found.clear()
        groups.keepers(FIRST, words, 1, 0).clear()
        self.assertEqual(groups.members(FIRST, words, 1), [(0, 1), (1, 0)])
        self.assertEqual(groups.keepers(FIRST, words, 1, 0), [(0, 1)])
        self.assertEqual(words, ["a", "b", "a"])


class Errors(unittest.TestCase):
    CALLS = ((groups.orbits, ()), (groups.first_split, ()), (groups.members, ()), (groups.size, ()),
             (groups.keepers, (0,)))

    def test_no_machine_and_no_word(self):
        for function, values in self.CALLS:
            for machine in tuple(WRONG.values()) + (NINE,):
                self.assertRaises(NotMachine, function, machine, [], 0, *values)
                self.assertRaises(NotMachine, function, machine, ["z"], -1, *values)
            for word in NO_WORDS:
                self.assertRaises(NotWord, function, FIRST, [word], 1, *values)
                self.assertRaises(NotWord, function, FIRST, ["a", word, "b"], -1, *values)

    def test_levels(self):
        machines = {2: FIRST, 3: support.THREE_DIGITS, 4: support.FOUR_DIGITS}
        for function, values in self.CALLS:
            for k, greatest in GREATEST.items():
                for words in ([], ["a"], ["a", "B"]):
                    for level in (-1, greatest + 1, 1000, GREAT, -GREAT):
                        self.assertRaises(BadNumber, function, machines[k], words, level, *values)
        self.assertRaises(BadNumber, groups.keepers, FIRST, [], 13, -1)


if __name__ == "__main__":
    unittest.main()
