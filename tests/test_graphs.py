import random
import unittest

import support
from leafturner import graphs, groups, levels
from leafturner.errors import BadNumber, NotGraph, NotMachine, NotString, NotWord, TooLarge
from test_machines import WRONG
from test_words import NINE, NO_WORDS

FIRST = support.FIRST
FOUR = support.FOUR_STATES
GREAT = support.GREAT

# Two parts: 0, 2, 4 and 1, 3.
TWO_PARTS = ((2, 3, 4, 1, 0), (0, 3, 2, 1, 4))
NO_GRAPHS = {
    "no rows": (),
    "7 rows": ((0,),) * 7,
    "an empty row": ((),),
    "an empty row behind another one": ((0,), ()),
    "1025 numbers": (tuple(range(1025)),),
    "a shorter row": ((1, 0, 2), (1, 0)),
    "a longer row": ((1, 0), (1, 0, 2)),
    "a number twice": ((0, 1, 2), (0, 1, 1)),
    "a number too great": ((0, 1, 3),),
    "a negative number": ((0, 1, -1),),
    "very many digits": ((0, GREAT),),
    "very many digits, negative": ((0, 1), (-GREAT, 1)),
}


def some_graph(rng, count, rows):
    return tuple([tuple(rng.sample(range(count), count)) for _ in range(rows)])


def some_graphs(seed, many, most):
    rng = random.Random(seed)
    made = [TWO_PARTS, ((0,),), ((0, 1, 2),), ((1, 2, 0),) * 6]
    for _ in range(many):
        count = rng.randint(1, most)
        # Rows that move few numbers make more parts.
        graph = []
        for _ in range(rng.randint(1, 3)):
            row = list(range(count))
            for _ in range(rng.randint(0, count)):
                one, other = rng.randrange(count), rng.randrange(count)
                row[one], row[other] = row[other], row[one]
            graph.append(tuple(row))
        made.append(tuple(graph))
    return made


def rearranged(graph, places):
    """The graph in which each number stands for the one at its place."""
    made = []
    for row in graph:
        further = [None] * len(row)
        for number, after in enumerate(row):
            further[places[number]] = places[after]
        made.append(tuple(further))
    return tuple(made)


def distances(graph, number):
    """How many steps forwards and backwards lead to each number."""
    found = {number: 0}
    queue = [number]
    for at in queue:
        for row in graph:
            for after in (row[at], row.index(at)):
                if after not in found:
                    found[after] = found[at] + 1
                    queue.append(after)
    return found


def standard_slowly(graph, number):
    found = [number]
    for at in found:
        for row in graph:
            for after in (row[at], row.index(at)):
                if after not in found:
                    found.append(after)
    return tuple([tuple([found.index(row[old]) for old in found]) for row in graph])


class Forms(unittest.TestCase):
    """[200]."""

    def test_graphs(self):
        for graph in (((0,),), ((0,),) * 6, ((1, 0),), TWO_PARTS, (tuple(range(1024)),) * 6,
                      (tuple(range(1023, -1, -1)),)):
            self.assertIs(graphs.is_graph(graph), True)

    def test_one_thing_changed(self):
        for why, graph in NO_GRAPHS.items():
            self.assertIs(graphs.is_graph(graph), False, why)
        self.assertIs(graphs.is_graph((tuple(range(1024)),) * 7), False)

    def test_no_graph_comes_first(self):
        calls = ((graphs.distance, (GREAT, -1)), (graphs.parts, ()), (graphs.layers, (-1,)),
                 (graphs.standard, (-1,)), (graphs.least_form, (-1,)))
        for graph in NO_GRAPHS.values():
            for function, values in calls:
                self.assertRaises(NotGraph, function, graph, *values)

    def test_numbers_that_are_not_in_it(self):
        for number in (-1, 5, 1000, GREAT, -GREAT):
            for function in (graphs.layers, graphs.standard, graphs.least_form):
                self.assertRaises(BadNumber, function, TWO_PARTS, number)
            self.assertRaises(BadNumber, graphs.distance, TWO_PARTS, number, 0)
            self.assertRaises(BadNumber, graphs.distance, TWO_PARTS, 0, number)
            self.assertRaises(BadNumber, graphs.distance, TWO_PARTS, number, number)
        self.assertRaises(BadNumber, graphs.least_form, (tuple(range(1024)),), 1024)


class Levels(unittest.TestCase):
    """[200]."""

    def test_known_graphs(self):
        self.assertEqual(graphs.level_graph(FIRST, ["a", "b", "A"], 2), ((2, 3, 1, 0), (0, 1, 2, 3), (3, 2, 0, 1)))
        self.assertEqual(graphs.level_graph(FIRST, [""], 1), ((0, 1),))
        self.assertEqual(graphs.level_graph(FIRST, ["a"] * 6, 0), ((0,),) * 6)

    def test_against_images_of_all_strings(self):
        rng = random.Random(200)
        for machine in support.MACHINES + tuple(support.some_machines(200, 15, 4)):
            for many in (1, 2, 6):
                words = [support.some_word(rng, machine, 6) for _ in range(many)]
                for n in range(4):
                    strings = support.strings_of_length(machine[0], n)
                    expected = [tuple([strings.index(support.image_by_word(machine, word, string))
                                       for string in strings]) for word in words]
                    self.assertEqual(graphs.level_graph(machine, words, n), tuple(expected))
                    self.assertIs(graphs.is_graph(tuple(expected)), True)

    def test_level_permutations(self):
        for machine, level in ((FIRST, 10), (support.THREE_DIGITS, 6), (support.FOUR_DIGITS, 5)):
            graph = graphs.level_graph(machine, ["a" * 60, "aB"], level)
            self.assertEqual(graph, (levels.level_permutation(machine, "a" * 60, level),
                                     levels.level_permutation(machine, "aB", level)))

    def test_at_most_1024_strings(self):
        for machine, level in ((FIRST, 10), (support.THREE_DIGITS, 6), (support.FOUR_DIGITS, 5)):
            self.assertEqual(len(graphs.level_graph(machine, ["a"], level)[0]), machine[0] ** level)
            for greater in (level + 1, 100, GREAT):
                self.assertRaises(TooLarge, graphs.level_graph, machine, ["a"] * 6, greater)

    def test_order_of_errors(self):
        for words in ([], ["a"] * 7):
            for level in (0, 11, GREAT, -1):
                self.assertRaises(BadNumber, graphs.level_graph, FIRST, words, level)
        for level in (-1, -11, -GREAT):
            self.assertRaises(BadNumber, graphs.level_graph, FIRST, ["a"], level)
        for word in NO_WORDS:
            for level in (0, 11, -1):
                self.assertRaises(NotWord, graphs.level_graph, FIRST, ["a"] * 6 + [word], level)
                self.assertRaises(NotWord, graphs.level_graph, FIRST, [word], level)
        for machine in tuple(WRONG.values()) + (NINE,):
            for words in ([], ["a"], ["z"]):
                self.assertRaises(NotMachine, graphs.level_graph, machine, words, -1)


class Numbers(unittest.TestCase):
    """[200]."""

    def test_there_and_back(self):
        for k in (2, 3, 4):
            for n in range(5):
                for number, string in enumerate(support.strings_of_length(k, n)):
                    self.assertEqual(graphs.number_of(k, string), number)
                    self.assertEqual(graphs.string_at(k, n, number), string)

    def test_edges(self):
        self.assertEqual(graphs.number_of(3, ""), 0)
        self.assertEqual(graphs.string_at(3, 0, 0), "")
        for k in (2, 3, 4):
            self.assertEqual(graphs.string_at(k, 10, k ** 10 - 1), str(k - 1) * 10)
            self.assertEqual(graphs.string_at(k, 10, 1), "0" * 9 + "1")
            self.assertEqual(graphs.number_of(k, str(k - 1) * 60), k ** 60 - 1)

    def test_counts_of_digits(self):
        for k in (1, 5, 0, -2, GREAT):
            self.assertRaises(BadNumber, graphs.number_of, k, "x")
            self.assertRaises(BadNumber, graphs.string_at, k, 1, 0)

    def test_no_strings(self):
        for k, string in ((2, "2"), (3, "3"), (4, "4"), (2, "x"), (2, " "), (2, "0" * 61), (2, "-"), (2, "\u0661"),
                          (2, "0\n")):
            self.assertRaises(NotString, graphs.number_of, k, string)

    def test_no_levels_and_no_numbers(self):
        for n in (-1, 11, 100, GREAT, -GREAT):
            self.assertRaises(BadNumber, graphs.string_at, 2, n, 0)
        for k in (2, 3, 4):
            for n in range(11):
                for number in (-1, k ** n, GREAT, -GREAT):
                    self.assertRaises(BadNumber, graphs.string_at, k, n, number)


class Steps(unittest.TestCase):
    """[201] and [202]."""

    def test_known_steps(self):
        self.assertEqual(graphs.parts(TWO_PARTS), [[0, 2, 4], [1, 3]])
        self.assertEqual(graphs.layers(TWO_PARTS, 0), [[0], [2, 4]])
        self.assertEqual(graphs.distance(TWO_PARTS, 0, 4), 1)
        self.assertIsNone(graphs.distance(TWO_PARTS, 0, 3))
        self.assertEqual(graphs.distance(TWO_PARTS, 3, 3), 0)
        line = ((1, 0, 3, 2, 5, 4), (0, 2, 1, 4, 3, 5))
        self.assertEqual(graphs.layers(line, 2), [[2], [1, 3], [0, 4], [5]])
        self.assertEqual(graphs.distance(line, 0, 5), 5)

    def test_against_steps_forwards_and_backwards(self):
        missing = 0
        for graph in some_graphs(201, 60, 12):
            count = len(graph[0])
            classes = []
            for one in range(count):
                steps = distances(graph, one)
                layers = [sorted([x for x in steps if steps[x] == n]) for n in range(max(steps.values()) + 1)]
                self.assertEqual(graphs.layers(graph, one), layers)
                for other in range(count):
                    self.assertEqual(graphs.distance(graph, one, other), steps.get(other))
                    missing += other not in steps
                if sorted(steps) not in classes:
                    classes.append(sorted(steps))
            self.assertEqual(graphs.parts(graph), classes)
        self.assertGreater(missing, 100)

    def test_parts_are_orbits(self):
        for machine in support.MACHINES:
            words = list(support.letters_of(machine)[:4])
            for n in range(4):
                graph = graphs.level_graph(machine, words, n)
                self.assertEqual(graphs.parts(graph), groups.orbits(machine, words, n))

    def test_great_graphs(self):
        ring = tuple([(x + 1) % 1024 for x in range(1024)])
        self.assertEqual(graphs.distance((ring,) * 6, 0, 512), 512)
        self.assertEqual(graphs.distance((ring,), 1023, 5), 6)
        self.assertEqual(len(graphs.layers((ring,), 7)), 513)
        self.assertEqual(graphs.parts((tuple(range(1024)),)), [[x] for x in range(1024)])


class StandardForms(unittest.TestCase):
    """[203] and [204]."""

    def test_known_forms(self):
        self.assertEqual(graphs.standard(TWO_PARTS, 0), ((1, 2, 0), (0, 1, 2)))
        self.assertEqual(graphs.standard(TWO_PARTS, 3), ((1, 0), (1, 0)))
        self.assertEqual(graphs.standard(((2, 0, 1),), 1), ((1, 2, 0),))
        # 0 is found first; then, by the first row, where it leads and from where; then by the second row.
        self.assertEqual(graphs.standard(((3, 0, 2, 1), (2, 1, 0, 3)), 0), ((1, 2, 0, 3), (3, 1, 2, 0)))

    def test_against_the_order_of_finding(self):
        for graph in some_graphs(203, 60, 10):
            for number in range(len(graph[0])):
                expected = standard_slowly(graph, number)
                self.assertEqual(graphs.standard(graph, number), expected)
                self.assertIs(graphs.is_graph(expected), True)
                forms = [standard_slowly(graph, other) for other in distances(graph, number)]
                self.assertEqual(graphs.least_form(graph, number), min(forms))

    def test_rearranged_graphs(self):
        rng = random.Random(2040)
        for graph in some_graphs(204, 40, 10):
            count = len(graph[0])
            places = rng.sample(range(count), count)
            other = rearranged(graph, places)
            for number in range(count):
                self.assertEqual(graphs.standard(other, places[number]), graphs.standard(graph, number))
                self.assertEqual(graphs.least_form(other, places[number]), graphs.least_form(graph, number))

    def test_the_same_exactly_if_a_rearrangement_leads_there(self):
        """Both ways are looked at in all graphs of two rows over three numbers."""
        rng = random.Random(2041)
        made = [some_graph(rng, 3, 2) for _ in range(12)]
        same = 0
        for one in made:
            for other in made:
                for number in range(3):
                    for there in range(3):
                        alike = self.leads(one, number, other, there)
                        self.assertIs(graphs.standard(one, number) == graphs.standard(other, there), alike)
                        same += alike
                        part = distances(other, there)
                        alike = any([self.leads(one, number, other, start) for start in part])
                        self.assertIs(graphs.least_form(one, number) == graphs.least_form(other, there), alike)
        self.assertGreater(same, 20)

    def leads(self, one, number, other, there):
        """Whether going the same steps at once from both numbers never contradicts itself."""
        pairs = [(number, there)]
        for a, b in pairs:
            for row, further in zip(one, other):
                for pair in ((row[a], further[b]), (row.index(a), further.index(b))):
                    if pair not in pairs:
                        pairs.append(pair)
        firsts = [a for a, _ in pairs]
        seconds = [b for _, b in pairs]
        return len(set(firsts)) == len(firsts) and len(set(seconds)) == len(seconds)

    def test_at_most_100_numbers(self):
        for count in (99, 100):
            ring = tuple([(x + 1) % count for x in range(count)])
            self.assertEqual(len(graphs.least_form((ring,) * 6, 50)[0]), count)
        ring = tuple([(x + 1) % 101 for x in range(101)])
        self.assertRaises(TooLarge, graphs.least_form, (ring,), 50)
        self.assertEqual(len(graphs.standard((ring,), 50)[0]), 101)
        # Only the part counts, not the graph.
        self.assertEqual(graphs.least_form((tuple(range(1024)),), 1000), ((0,),))
        self.assertEqual(graphs.least_form((ring + (102, 101),), 101), ((1, 0),))
        self.assertRaises(TooLarge, graphs.least_form, (ring + (102, 101),), 100)


class Above(unittest.TestCase):
    """[205] and [206]."""

    def test_levels(self):
        rng = random.Random(205)
        for machine in support.MACHINES + tuple(support.some_machines(205, 15, 4)):
            k = machine[0]
            words = [support.some_word(rng, machine, 5) for _ in range(3)]
            for n in range(4):
                lower = graphs.level_graph(machine, words, n)
                upper = graphs.level_graph(machine, words, n + 1)
                self.assertIs(graphs.over(upper, lower, k), True)
                self.parts_over(upper, lower, k)
                self.distances_over(upper, lower, k)

    def parts_over(self, upper, lower, k):
        below = graphs.parts(lower)
        for part in graphs.parts(upper):
            under = sorted(set([x // k for x in part]))
            self.assertIn(under, below)
            counts = [sum([x // k == y for x in part]) for y in under]
            self.assertEqual(len(set(counts)), 1)
            self.assertLessEqual(counts[0], k)

    def distances_over(self, upper, lower, k):
        for u in (0, len(upper[0]) // 2, len(upper[0]) - 1):
            above, below = distances(upper, u), distances(lower, u // k)
            for x, steps in above.items():
                self.assertLessEqual(below[x // k], steps)
            for i in range(6):
                self.assertGreaterEqual(sum([steps <= i for steps in above.values()]),
                                        sum([steps <= i for steps in below.values()]))

    def test_changed_graphs(self):
        lower = graphs.level_graph(FIRST, ["a", "b"], 2)
        upper = graphs.level_graph(FIRST, ["a", "b"], 3)
        self.assertIs(graphs.over(upper, lower, 2), True)
        rows = [list(row) for row in upper]
        rows[1][0], rows[1][7] = rows[1][7], rows[1][0]
        self.assertIs(graphs.over(tuple([tuple(row) for row in rows]), lower, 2), False)
        rows = [list(row) for row in upper]
        rows[1][6], rows[1][7] = rows[1][7], rows[1][6]
        self.assertIs(graphs.over(tuple([tuple(row) for row in rows]), lower, 2), True)
        self.assertIs(graphs.over(upper, (lower[1], lower[0]), 2), False)
        self.assertIs(graphs.over(upper, (lower[0], lower[0]), 2), False)

    def test_other_rows_and_sizes(self):
        lower = graphs.level_graph(FIRST, ["a", "b"], 2)
        upper = graphs.level_graph(FIRST, ["a", "b"], 3)
        self.assertIs(graphs.over(upper[:1], lower, 2), False)
        self.assertIs(graphs.over(upper, lower[:1], 2), False)
        self.assertIs(graphs.over(upper, lower, 3), False)
        self.assertIs(graphs.over(upper, lower, 4), False)
        self.assertIs(graphs.over(lower, upper, 2), False)
        self.assertIs(graphs.over(lower, lower, 2), False)
        self.assertIs(graphs.over(graphs.level_graph(FIRST, ["a", "b"], 4), lower, 2), False)
        self.assertIs(graphs.over(graphs.level_graph(FIRST, ["a", "b"], 4), lower, 4), True)
        # Rows that stay where they are lie over each other, if only the sizes fit.
        for above in range(1, 13):
            for below in range(1, 7):
                for k in (2, 3, 4):
                    found = graphs.over((tuple(range(above)),), (tuple(range(below)),), k)
                    self.assertIs(found, above == k * below)

    def test_errors(self):
        for graph in NO_GRAPHS.values():
            self.assertRaises(NotGraph, graphs.over, graph, TWO_PARTS, 5)
            self.assertRaises(NotGraph, graphs.over, TWO_PARTS, graph, 5)
            self.assertRaises(NotGraph, graphs.over, TWO_PARTS, graph, 2)
        for k in (1, 5, 0, -1, GREAT, -GREAT):
            self.assertRaises(BadNumber, graphs.over, TWO_PARTS, TWO_PARTS, k)
            self.assertRaises(BadNumber, graphs.over, TWO_PARTS, ((0,),), k)


class Sharing(unittest.TestCase):
    """[0]."""

    def test_arguments_and_results(self):
        words = ["a", "b"]
        graph = graphs.level_graph(FIRST, words, 3)
        self.assertEqual(words, ["a", "b"])
        for function, values in ((graphs.parts, ()), (graphs.layers, (0,))):
            found = function(graph, *values)
            found[0].append(99)
            found.append([100])
            self.assertNotEqual(function(graph, *values), found)
            self.assertEqual(graph, graphs.level_graph(FIRST, words, 3))


if __name__ == "__main__":
    unittest.main()
