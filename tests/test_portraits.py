import itertools
import math
import random
import unittest

import support
from leafturner import levels, portraits, sections, words
from leafturner.errors import BadNumber, NoAnswer, NotMachine, NotPortrait, NotString, NotWord
from test_machines import WRONG
from test_words import NINE, NO_WORDS

FIRST = support.FIRST
GREAT = support.GREAT
# The greatest depth for each number of digits, and the number of arrangements there.
DEEPEST = {2: (6, 63), 3: (6, 364), 4: (5, 341)}
NO_COUNTS = (1, 5, 0, -2, GREAT, -GREAT)
NO_DEPTHS = ((2, 7), (2, -1), (2, GREAT), (2, -GREAT), (3, 7), (3, -1), (4, 6), (4, 7), (4, -1), (4, GREAT))

SWAP, STAY = (1, 0), (0, 1)
NO_PORTRAITS = {
    "an arrangement left out": ((SWAP,), (STAY,)),
    "an arrangement more": ((SWAP, SWAP),),
    "no arrangements": ((),),
    "a level without arrangements": ((SWAP,), ()),
    "an arrangement more on the last level": ((SWAP,), (STAY, STAY, STAY)),
    "a digit left out": (((0,),),),
    "a digit more": (((0, 1, 2),),),
    "a digit twice": (((1, 1),),),
    "a digit too great": (((0, 2),),),
    "a negative digit": (((0, -1),),),
    "no digits": (((),),),
    "very many digits": ((SWAP,), ((0, GREAT), STAY)),
    "very many digits, negative": (((-GREAT, 1),),),
    "wrong in the last arrangement": ((SWAP,), (STAY, (0, 0))),
}


def some_portrait(rng, k, depth):
    return tuple([tuple([tuple(rng.sample(range(k), k)) for _ in range(k ** i)]) for i in range(depth)])


def some_portraits(seed, most):
    rng = random.Random(seed)
    return [(k, some_portrait(rng, k, depth)) for k in (2, 3, 4) for depth in range(most + 1) for _ in range(4)]


def resting(k, depth):
    return tuple([tuple([tuple(range(k)) for _ in range(k ** i)]) for i in range(depth)])


def acted_slowly(k, portrait, string):
    """Each digit by the arrangement of what stands before it in the string itself."""
    written = ""
    for i, digit in enumerate(string):
        at = support.strings_of_length(k, i).index(string[:i])
        written += str(portrait[i][at][int(digit)])
    return written


def portrait_slowly(machine, word, depth):
    """Each arrangement by the images of the beginning and one digit more."""
    made = []
    for i in range(depth):
        level = []
        for u in support.strings_of_length(machine[0], i):
            level.append(tuple([int(support.image_by_word(machine, word, u + str(x))[-1])
                                for x in range(machine[0])]))
        made.append(tuple(level))
    return tuple(made)


def all_portraits(k, depth):
    choices = list(itertools.permutations(range(k)))
    levels_of = [list(itertools.product(choices, repeat=k ** i)) for i in range(depth)]
    return sorted(itertools.product(*levels_of))


def parity(arrangement):
    turned = [1 for x, y in itertools.combinations(range(len(arrangement)), 2) if arrangement[x] > arrangement[y]]
    return (-1) ** len(turned)


class Forms(unittest.TestCase):
    """[220]."""

    def test_portraits(self):
        for k, (deepest, many) in DEEPEST.items():
            for depth in range(deepest + 1):
                self.assertIs(portraits.is_portrait(k, resting(k, depth)), True)
            self.assertEqual(sum([len(level) for level in resting(k, deepest)]), many)
        for k, portrait in some_portraits(220, 4):
            self.assertIs(portraits.is_portrait(k, portrait), True)

    def test_too_deep(self):
        for k, depth in ((2, 7), (2, 8), (3, 7), (4, 6), (4, 7)):
            self.assertIs(portraits.is_portrait(k, resting(k, depth)), False)
        # 401 arrangements and more are too many, also with 6 levels.
        self.assertEqual(sum([len(level) for level in resting(4, 6)]), 1365)

    def test_one_thing_changed(self):
        for why, portrait in NO_PORTRAITS.items():
            self.assertIs(portraits.is_portrait(2, portrait), False, why)
        for k in (3, 4):
            self.assertIs(portraits.is_portrait(k, ((SWAP,),)), False)
        self.assertIs(portraits.is_portrait(2, (((0, 1, 2),),)), False)
        self.assertIs(portraits.is_portrait(3, resting(2, 2)), False)
        self.assertIs(portraits.is_portrait(2, resting(3, 1)), False)

    def test_counts_of_digits_come_first(self):
        wrong = NO_PORTRAITS["no arrangements"]
        for k in NO_COUNTS:
            self.assertRaises(BadNumber, portraits.is_portrait, k, wrong)
            self.assertRaises(BadNumber, portraits.is_portrait, k, ())
            self.assertRaises(BadNumber, portraits.rest, k, 0)
            self.assertRaises(BadNumber, portraits.acted, k, wrong, "x")
            self.assertRaises(BadNumber, portraits.product, k, wrong, ())
            self.assertRaises(BadNumber, portraits.inverse, k, wrong)
            self.assertRaises(BadNumber, portraits.section, k, wrong, "x")
            self.assertRaises(BadNumber, portraits.level_of, k, wrong)
            self.assertRaises(BadNumber, portraits.from_level, k, 0, (1,))
            self.assertRaises(BadNumber, portraits.signs, k, wrong)
            self.assertRaises(BadNumber, portraits.count, k, 0)
            self.assertRaises(BadNumber, portraits.portrait_at, k, 0, 0)
            self.assertRaises(BadNumber, portraits.number_of_portrait, k, wrong)

    def test_no_portraits(self):
        for wrong in tuple(NO_PORTRAITS.values()) + (resting(2, 7),):
            self.assertRaises(NotPortrait, portraits.acted, 2, wrong, "x")
            self.assertRaises(NotPortrait, portraits.product, 2, wrong, ())
            self.assertRaises(NotPortrait, portraits.product, 2, (), wrong)
            self.assertRaises(NotPortrait, portraits.product, 2, wrong, wrong)
            self.assertRaises(NotPortrait, portraits.inverse, 2, wrong)
            self.assertRaises(NotPortrait, portraits.section, 2, wrong, "x")
            self.assertRaises(NotPortrait, portraits.level_of, 2, wrong)
            self.assertRaises(NotPortrait, portraits.signs, 2, wrong)
            self.assertRaises(NotPortrait, portraits.number_of_portrait, 2, wrong)


class OfWords(unittest.TestCase):
    """[222]."""

    def test_known_portraits(self):
        self.assertEqual(portraits.portrait_of(FIRST, "a", 2), ((SWAP,), (STAY, SWAP)))
        self.assertEqual(portraits.portrait_of(FIRST, "A", 2), ((SWAP,), (SWAP, STAY)))
        self.assertEqual(portraits.portrait_of(FIRST, "a", 0), ())
        self.assertEqual(portraits.portrait_of(FIRST, "b", 6), resting(2, 6))

    def test_against_images(self):
        rng = random.Random(222)
        for machine in support.MACHINES + tuple(support.some_machines(222, 20, 5)):
            word = support.some_word(rng, machine, 6)
            for depth in range(4):
                portrait = portraits.portrait_of(machine, word, depth)
                self.assertEqual(portrait, portrait_slowly(machine, word, depth))
                self.assertIs(portraits.is_portrait(machine[0], portrait), True)
                for string in support.strings_up_to(machine[0], depth):
                    self.assertEqual(portraits.acted(machine[0], portrait, string),
                                     support.image_by_word(machine, word, string))

    def test_the_deepest(self):
        for machine in (FIRST, support.THREE_DIGITS, support.FOUR_DIGITS):
            depth, many = DEEPEST[machine[0]]
            portrait = portraits.portrait_of(machine, "aBa" * 20, depth)
            self.assertEqual(sum([len(level) for level in portrait]), many)
            string = "0110"[:depth]
            self.assertEqual(portraits.acted(machine[0], portrait, string),
                             sections.image_of(machine, "aBa" * 20, string))

    def test_equal_words(self):
        for one, other in (("ab", "a"), ("aA", ""), ("bAB", "A")):
            self.assertEqual(portraits.portrait_of(FIRST, one, 6), portraits.portrait_of(FIRST, other, 6))
        self.assertNotEqual(portraits.portrait_of(FIRST, "a", 2), portraits.portrait_of(FIRST, "A", 2))

    def test_the_same_exactly_if_short_strings_are_changed_alike(self):
        rng = random.Random(2220)
        answers = {True: 0, False: 0}
        for machine in support.MACHINES + tuple(support.some_machines(2220, 20, 2)):
            for depth in (1, 2):
                one, other = support.some_word(rng, machine, 3), support.some_word(rng, machine, 3)
                alike = all([support.image_by_word(machine, one, string) == support.image_by_word(machine, other, string)
                             for string in support.strings_up_to(machine[0], depth)])
                same = portraits.portrait_of(machine, one, depth) == portraits.portrait_of(machine, other, depth)
                self.assertIs(same, alike)
                answers[same] += 1
        self.assertGreater(min(answers.values()), 5)

    def test_errors(self):
        for k, depth in NO_DEPTHS:
            machine = {2: FIRST, 3: support.THREE_DIGITS, 4: support.FOUR_DIGITS}[k]
            self.assertRaises(BadNumber, portraits.portrait_of, machine, "a", depth)
            for word in NO_WORDS:
                self.assertRaises(NotWord, portraits.portrait_of, FIRST, word, depth)
            for wrong in tuple(WRONG.values()) + (NINE,):
                self.assertRaises(NotMachine, portraits.portrait_of, wrong, "z", depth)

    def test_rest(self):
        for k, (deepest, _) in DEEPEST.items():
            for depth in range(deepest + 1):
                self.assertEqual(portraits.rest(k, depth), resting(k, depth))
        for k, depth in NO_DEPTHS:
            self.assertRaises(BadNumber, portraits.rest, k, depth)


class Acting(unittest.TestCase):
    """[221]."""

    def test_known_images(self):
        # The arrangement behind 0 is looked up by the 0 that is read, not by the 1 that is written.
        portrait = ((SWAP,), (SWAP, STAY))
        self.assertEqual([portraits.acted(2, portrait, string) for string in ("00", "01", "10", "11")],
                         ["11", "10", "00", "01"])
        self.assertEqual(portraits.acted(2, portrait, ""), "")
        self.assertEqual(portraits.acted(2, (), ""), "")
        self.assertEqual(portraits.acted(2, portrait, "1"), "0")

    def test_against_looking_up(self):
        for k, portrait in some_portraits(221, 4):
            for string in support.strings_up_to(k, len(portrait)):
                image = portraits.acted(k, portrait, string)
                self.assertEqual(image, acted_slowly(k, portrait, string))
                self.assertEqual(portraits.acted(k, portrait, string[:-1]), image[:-1])

    def test_no_strings(self):
        for k in (2, 3, 4):
            portrait = resting(k, 2)
            for string in (str(k), "0" + str(k), "x", " ", "-", "000", "0" * 61, "\u0661"):
                self.assertRaises(NotString, portraits.acted, k, portrait, string)
                self.assertRaises(NotString, portraits.section, k, portrait, string)
            self.assertRaises(NotString, portraits.acted, k, (), "0")
            self.assertRaises(NotString, portraits.section, k, (), "0")


class Products(unittest.TestCase):
    """[223]."""

    def pairs(self, seed):
        rng = random.Random(seed)
        for k, portrait in some_portraits(seed, 3):
            yield k, portrait, some_portrait(rng, k, len(portrait)), some_portrait(rng, k, len(portrait))

    def test_products_act_one_after_the_other(self):
        for k, one, other, _ in self.pairs(223):
            whole = portraits.product(k, one, other)
            self.assertIs(portraits.is_portrait(k, whole), True)
            for string in support.strings_of_length(k, len(one)):
                self.assertEqual(acted_slowly(k, whole, string), acted_slowly(k, other, acted_slowly(k, one, string)))

    def test_inverses(self):
        for k, one, _, _ in self.pairs(2230):
            back = portraits.inverse(k, one)
            nothing = resting(k, len(one))
            self.assertEqual(portraits.product(k, one, back), nothing)
            self.assertEqual(portraits.product(k, back, one), nothing)
            self.assertEqual(portraits.inverse(k, back), one)
            for string in support.strings_of_length(k, len(one)):
                self.assertEqual(acted_slowly(k, back, acted_slowly(k, one, string)), string)

    def test_brackets_and_rest(self):
        for k, one, two, three in self.pairs(2231):
            self.assertEqual(portraits.product(k, portraits.product(k, one, two), three),
                             portraits.product(k, one, portraits.product(k, two, three)))
            nothing = portraits.rest(k, len(one))
            self.assertEqual(portraits.product(k, one, nothing), one)
            self.assertEqual(portraits.product(k, nothing, one), one)

    def test_products_of_words(self):
        rng = random.Random(2232)
        for machine in support.MACHINES:
            one, other = support.some_word(rng, machine, 6), support.some_word(rng, machine, 6)
            whole = portraits.product(machine[0], portraits.portrait_of(machine, one, 3),
                                      portraits.portrait_of(machine, other, 3))
            self.assertEqual(whole, portraits.portrait_of(machine, one + other, 3))
            self.assertEqual(portraits.inverse(machine[0], portraits.portrait_of(machine, one, 3)),
                             portraits.portrait_of(machine, words.undone_word(machine, one), 3))

    def test_unlike_depths(self):
        for k in (2, 3, 4):
            for one, other in ((0, 1), (1, 0), (2, 3), (5, 4)):
                self.assertRaises(BadNumber, portraits.product, k, resting(k, one), resting(k, other))
        # What is no portrait comes first.
        self.assertRaises(NotPortrait, portraits.product, 2, resting(2, 1), NO_PORTRAITS["a digit twice"] + ((),))
        self.assertRaises(NotPortrait, portraits.product, 2, resting(2, 7), resting(2, 1))


class Rearrangements(unittest.TestCase):
    """[224]."""

    def test_there_and_back(self):
        for k, portrait in some_portraits(224, 3):
            n = len(portrait)
            numbers = portraits.level_of(k, portrait)
            strings = support.strings_of_length(k, n)
            self.assertEqual(numbers, tuple([strings.index(acted_slowly(k, portrait, string)) for string in strings]))
            self.assertEqual(portraits.from_level(k, n, numbers), portrait)

    def test_edges(self):
        self.assertEqual(portraits.level_of(2, ()), (0,))
        self.assertEqual(portraits.from_level(4, 0, (0,)), ())
        self.assertEqual(portraits.from_level(2, 1, (1, 0)), ((SWAP,),))
        self.assertEqual(portraits.from_level(2, 2, (2, 3, 1, 0)), ((SWAP,), (STAY, SWAP)))
        for machine in (FIRST, support.THREE_DIGITS, support.FOUR_DIGITS):
            depth, _ = DEEPEST[machine[0]]
            numbers = levels.level_permutation(machine, "aB", depth)
            portrait = portraits.portrait_of(machine, "aB", depth)
            self.assertEqual(portraits.level_of(machine[0], portrait), numbers)
            self.assertEqual(portraits.from_level(machine[0], depth, numbers), portrait)

    def test_all_rearrangements(self):
        """Each one has exactly one portrait, or parts strings with the same beginning."""
        for k, n in ((2, 2), (2, 1), (3, 1), (4, 1)):
            made = {portraits.level_of(k, portrait): portrait for portrait in all_portraits(k, n)}
            for numbers in itertools.permutations(range(k ** n)):
                if numbers in made:
                    self.assertEqual(portraits.from_level(k, n, numbers), made[numbers])
                else:
                    self.assertRaises(NoAnswer, portraits.from_level, k, n, numbers)

    def test_strings_that_are_parted(self):
        self.assertRaises(NoAnswer, portraits.from_level, 2, 2, (0, 2, 1, 3))
        self.assertRaises(NoAnswer, portraits.from_level, 3, 2, (0, 1, 3, 2, 4, 5, 6, 7, 8))
        # The last digits stay together, and those before them do not.
        self.assertRaises(NoAnswer, portraits.from_level, 2, 3, (0, 1, 4, 5, 2, 3, 6, 7))
        self.assertEqual(portraits.from_level(2, 3, (4, 5, 6, 7, 0, 1, 3, 2))[0], (SWAP,))

    def test_no_rearrangements(self):
        for numbers in ((0, 1, 2), (0, 1, 2, 3, 4), (0, 1, 2, 2), (0, 1, 2, 4), (0, 1, 2, -1), (),
                        (0, 1, 2, GREAT), (-GREAT, 1, 2, 3)):
            self.assertRaises(NotPortrait, portraits.from_level, 2, 2, numbers)
        self.assertRaises(NotPortrait, portraits.from_level, 2, 0, (1,))
        self.assertRaises(NotPortrait, portraits.from_level, 2, 0, ())
        for k, n in NO_DEPTHS:
            for numbers in ((0, 1, 2), (0, 2, 1, 3), (0,)):
                self.assertRaises(BadNumber, portraits.from_level, k, n, numbers)


class Sections(unittest.TestCase):
    """[225]."""

    def test_known_sections(self):
        portrait = ((SWAP,), (SWAP, STAY), (SWAP, SWAP, STAY, SWAP))
        self.assertEqual(portraits.section(2, portrait, ""), portrait)
        self.assertEqual(portraits.section(2, portrait, "1"), ((STAY,), (STAY, SWAP)))
        self.assertEqual(portraits.section(2, portrait, "10"), ((STAY,),))
        self.assertEqual(portraits.section(2, portrait, "111"), ())
        self.assertEqual(portraits.section(3, (), ""), ())

    def test_against_images(self):
        for k, portrait in some_portraits(225, 3):
            for u in support.strings_up_to(k, len(portrait)):
                part = portraits.section(k, portrait, u)
                self.assertEqual(len(part), len(portrait) - len(u))
                self.assertIs(portraits.is_portrait(k, part), True)
                for v in support.strings_of_length(k, len(part)):
                    self.assertEqual(acted_slowly(k, portrait, u + v),
                                     acted_slowly(k, portrait, u) + acted_slowly(k, part, v))

    def test_sections_of_products(self):
        rng = random.Random(2250)
        for k, one in some_portraits(2250, 3):
            other = some_portrait(rng, k, len(one))
            whole = portraits.product(k, one, other)
            for u in support.strings_up_to(k, len(one)):
                parts = (portraits.section(k, one, u), portraits.section(k, other, portraits.acted(k, one, u)))
                self.assertEqual(portraits.section(k, whole, u), portraits.product(k, *parts))


class Signs(unittest.TestCase):
    """[226]."""

    def test_known_signs(self):
        self.assertEqual(portraits.signs(2, ()), [])
        self.assertEqual(portraits.signs(2, ((SWAP,), (SWAP, SWAP), (STAY, SWAP, STAY, STAY))), [-1, 1, -1])
        for arrangement in itertools.permutations(range(4)):
            self.assertEqual(portraits.signs(4, ((arrangement,),)), [parity(arrangement)])
        self.assertEqual(portraits.signs(3, (((1, 2, 0),),)), [1])
        self.assertEqual(portraits.signs(3, (((1, 0, 2),),)), [-1])

    def test_against_counting_pairs(self):
        for k, portrait in some_portraits(226, 4):
            self.assertEqual(portraits.signs(k, portrait),
                             [math.prod([parity(arrangement) for arrangement in level]) for level in portrait])

    def test_signs_of_products(self):
        rng = random.Random(2260)
        for k, one in some_portraits(2260, 3):
            other = some_portrait(rng, k, len(one))
            self.assertEqual(portraits.signs(k, portraits.product(k, one, other)),
                             [a * b for a, b in zip(portraits.signs(k, one), portraits.signs(k, other))])

    def test_odd_words(self):
        """For 2 digits the sign of a level tells whether the word is odd there."""
        for word in ("a", "aa", "ab", "aab"):
            found = portraits.signs(2, portraits.portrait_of(FIRST, word, 6))
            self.assertEqual([n for n, sign in enumerate(found) if sign == -1], levels.odd_levels(FIRST, word, 6))


class Numbers(unittest.TestCase):
    """[227]."""

    def test_all_in_ascending_order(self):
        for k, depth in ((2, 0), (2, 1), (2, 2), (2, 3), (3, 0), (3, 1), (4, 0), (4, 1)):
            known = all_portraits(k, depth)
            self.assertEqual(portraits.count(k, depth), len(known))
            for number, portrait in enumerate(known):
                self.assertEqual(portraits.portrait_at(k, depth, number), portrait)
                self.assertEqual(portraits.number_of_portrait(k, portrait), number)

    def test_counts(self):
        for k, (deepest, _) in DEEPEST.items():
            for depth in range(deepest + 1):
                exponent = sum([k ** i for i in range(depth)])
                self.assertEqual(portraits.count(k, depth), math.factorial(k) ** exponent)

    def test_there_and_back(self):
        rng = random.Random(227)
        for k, (deepest, _) in DEEPEST.items():
            for depth in range(deepest + 1):
                many = portraits.count(k, depth)
                for number in [0, many - 1] + [rng.randrange(many) for _ in range(3)]:
                    portrait = portraits.portrait_at(k, depth, number)
                    self.assertIs(portraits.is_portrait(k, portrait), True)
                    self.assertEqual(len(portrait), depth)
                    self.assertEqual(portraits.number_of_portrait(k, portrait), number)
                self.assertEqual(portraits.portrait_at(k, depth, 0), resting(k, depth))
        for k, portrait in some_portraits(2270, 4):
            self.assertEqual(portraits.portrait_at(k, len(portrait), portraits.number_of_portrait(k, portrait)), portrait)

    def test_the_order_of_great_numbers(self):
        rng = random.Random(2271)
        for k, (deepest, _) in DEEPEST.items():
            numbers = sorted([rng.randrange(portraits.count(k, deepest)) for _ in range(5)])
            found = [portraits.portrait_at(k, deepest, number) for number in numbers]
            self.assertEqual(found, sorted(found))

    def test_no_numbers(self):
        for k in (2, 3, 4):
            for depth in range(4):
                for number in (-1, portraits.count(k, depth), GREAT, -GREAT):
                    self.assertRaises(BadNumber, portraits.portrait_at, k, depth, number)
        for k, depth in NO_DEPTHS:
            self.assertRaises(BadNumber, portraits.count, k, depth)
            self.assertRaises(BadNumber, portraits.portrait_at, k, depth, 0)


class Sharing(unittest.TestCase):
    """[0]."""

    def test_results_are_not_shared(self):
        portrait = portraits.portrait_of(FIRST, "a", 2)
        found = portraits.signs(2, portrait)
        found.append(7)
        self.assertEqual(portraits.signs(2, portrait), [-1, -1])
        self.assertEqual(portrait, ((SWAP,), (STAY, SWAP)))


if __name__ == "__main__":
    unittest.main()
