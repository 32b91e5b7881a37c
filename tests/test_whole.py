"""[0]: what holds for each function of the whole program."""

import copy
import importlib
import inspect
import unittest

import support
from leafturner.desk import Desk
from leafturner.journal import Journal
from test_decide import SIX
from test_package import CLASSES, INTERFACE

FIRST = support.FIRST
ENDLESS = ("0", "01")
GRAPH = ((1, 2, 0, 3), (0, 1, 3, 2))
PORTRAIT = (((1, 0),), ((0, 1), (1, 0)))
CORE = ["", "a", "A"]
EQUAL = ("equal", ["abA", "b"])
FINITE = ("finite", 6, ["aaaaaa", "cccbbc"], ["00", "0"])
LINE = "machine f 2 / 1:1 0:0 / 0:1 1:1"

# A value for each argument, by its name; some functions need others, by their own names.
VALUES = {
    "machine": FIRST, "one": "a", "other": "ab", "s": 0, "t": 1, "state": 0, "k": 2, "string": "01", "word": "aab",
    "words": ["a", "b"], "length": 3, "level": 2, "n": 2, "p": (1, 0), "q": (1, 0), "text": "2 / 1:1 0:0 / 0:1 1:1",
    "exponent": 2, "most": 3, "number": 1, "row": 0, "endless": ENDLESS, "steps": 3, "graph": GRAPH,
    "portrait": PORTRAIT, "depth": 2, "numbers": (2, 3, 1, 0), "answer": EQUAL, "witness": ("0", 2, 1, ""),
    "strings": ["0"], "line": "show f", "lines": ["show f", "x"], "table": [[1, 1, 1, 1], [1, 1, 1, 1], [1, 1, 1, 1]],
    "word_machine": FIRST,
}
SPECIAL = {
    "machines.behind": {"one": FIRST, "other": FIRST}, "least.are_alike": {"one": FIRST, "other": FIRST},
    "least.first_apart": {"one": FIRST, "other": FIRST},
    "endless.first_difference": {"one": ENDLESS, "other": ("", "1")},
    "endless.are_tail_alike": {"one": ENDLESS, "other": ("", "10")},
    "endless.are_level_alike": {"one": ENDLESS, "other": ("", "10")},
    "cores.is_core_list": {"words": CORE}, "cores.depths": {"words": CORE}, "cores.fits": {"words": CORE},
    "cores.come_down": {"words": CORE}, "closed.closed_list": {"word": "abA"},
    "graphs.distance": {"one": 0, "other": 3}, "graphs.over": {"upper": GRAPH, "lower": ((1, 0), (0, 1))},
    "graphs.level_graph": {"words": ["a", "bA"]},
    "portraits.product": {"one": PORTRAIT, "other": PORTRAIT},
    "decide.decide_order": {"machine": SIX, "word": "a"},
    "decide.is_order_answer": {"machine": SIX, "word": "a", "answer": FINITE},
    "certificates.order_shown": {"machine": SIX, "word": "a", "answer": FINITE},
    "certificates.is_finite_order": {"machine": SIX, "word": "a", "n": 6, "words": FINITE[2], "strings": FINITE[3]},
    "certificates.shows_equal": {"words": ["abA", "b"]}, "certificates.is_closed_list": {"words": ["b"]},
    "lines.words_of": {"line": "a b c"}, "lines.number_in": {"word": "7"},
    "journal.resume": {"text": "> " + LINE + "\n< 2\n"},
}


def lists_in(value):
    """All lists and dicts that stand in a value, however deep."""
    if isinstance(value, dict):
        return [value] + [found for each in value.values() for found in lists_in(each)]
    if isinstance(value, (list, tuple)):
        return ([value] if isinstance(value, list) else []) + [found for each in value for found in lists_in(each)]
    if isinstance(value, (Desk, Journal)):
        return lists_in(vars(value))
    return []


class EachFunction(unittest.TestCase):
    def call(self, name, function):
        """Call a function twice, and return the arguments, what they were, and both results."""
        names = list(inspect.signature(function).parameters)
        given = {}
        for each in names:
            if each == "journal":
                given[each] = Journal()
            elif each in SPECIAL.get(name, {}):
                given[each] = SPECIAL[name][each]
            elif each in VALUES:
                given[each] = VALUES[each]
        before = copy.deepcopy(given)
        results = [function(**given) for _ in range(2)]
        return given, before, results

    def test_arguments_are_unchanged_and_no_lists_are_shared(self):
        with_lists = 0
        for module_name, told in INTERFACE.items():
            module = importlib.import_module("leafturner." + module_name)
            for line in told:
                name = module_name + "." + line.partition("(")[0]
                given, before, results = self.call(name, getattr(module, line.partition("(")[0]))
                with self.subTest(name):
                    for each in given:
                        if each != "journal":
                            self.assertEqual(given[each], before[each])
                    found = [lists_in(result) for result in results]
                    held = lists_in(list(given.values()))
                    numbers = [id(each) for part in found + [held] for each in part]
                    self.assertEqual(len(set(numbers)), len(numbers))
                    with_lists += bool(found[0])
                    if module_name != "journal":
                        self.assertEqual(results[0], results[1])
        self.assertGreater(with_lists, 25)

    def test_methods(self):
        for module_name, classes in CLASSES.items():
            module = importlib.import_module("leafturner." + module_name)
            for class_name, told in classes.items():
                made = getattr(module, class_name)()
                made.answer(LINE)
                for line in told:
                    method = getattr(made, line.partition("(")[0])
                    values = [VALUES.get(each, "f") for each in inspect.signature(method).parameters]
                    if not line.startswith("_") and not line.startswith("keep"):
                        before = copy.deepcopy(values)
                        found = [lists_in(method(*values)) for _ in range(2)]
                        self.assertEqual(values, before)
                        held = lists_in(made) + lists_in(values)
                        numbers = [id(each) for part in found + [held] for each in part]
                        self.assertEqual(len(set(numbers)), len(numbers), line)

    def test_values_fit(self):
        """No value above is left over, and those for single functions name functions."""
        known = {f"{module}.{line.partition('(')[0]}" for module, told in INTERFACE.items() for line in told}
        self.assertEqual(set(SPECIAL) - known, set())


if __name__ == "__main__":
    unittest.main()
