"""The interface stands as the document lists it, and the files keep the rules of form that a program can check."""

import ast
import builtins
import importlib
import inspect
import pathlib
import unittest

FOLDER = pathlib.Path(__file__).resolve().parent.parent / "leafturner"

INTERFACE = {
    "machines": ("is_wide(machine)", "is_machine(machine)", "check_wide(machine)", "check_machine(machine)",
                 "check_string(k, string)", "is_string(machine, string)", "image(machine, state, string)",
                 "state_behind(machine, state, string)", "undoing(machine)", "behind(one, s, other, t)",
                 "with_digits(machine, p)", "with_states(machine, q)"),
    "least": ("reached(machine, state)", "trimmed(machine, state)", "least(machine, state)",
              "are_alike(one, s, other, t)", "first_apart(one, s, other, t)"),
    "texts": ("text_of(machine)", "read_machine(text)"),
    "words": ("check_word(machine, word)", "cut_word(machine, word)", "undone_word(machine, word)",
              "is_before(machine, one, other)"),
    "sections": ("image_of(machine, word, string)", "section_of(machine, word, string)",
                 "row_of_word(machine, word)", "keeps(machine, word, string)",
                 "keeps_length(machine, word, length)"),
    "closed": ("is_closed(machine, words)", "closed_list(machine, word)", "is_at_rest(machine, word)",
               "are_equal(machine, one, other)"),
    "apart": ("first_string(machine, one, other)", "classes(machine, words)", "table(machine, length)",
              "least_word(machine, word, *, most=4)"),
    "wordmachine": ("section_words(machine, word)", "word_machine(machine, word)", "section_count(machine, word)",
                    "are_same(machine, one, other)", "row_of(machine, word, string)",
                    "first_word(machine, word, row)", "depth(machine, word)", "acted(word_machine, string)"),
    "orders": ("power(machine, word, exponent)", "order_up_to(machine, word, most)",
               "round_of(machine, word, string)", "is_witness(machine, word, witness)",
               "find_witness(machine, word)", "order(machine, word)"),
    "levels": ("strings_of(k, level)", "level_permutation(machine, word, level)", "cycles(machine, word, level)",
               "is_round(machine, word, level)", "odd_levels(machine, word, level)"),
    "groups": ("orbits(machine, words, level)", "first_split(machine, words, most)",
               "members(machine, words, level)", "size(machine, words, level)",
               "keepers(machine, words, level, number)"),
    "endless": ("check_endless(k, endless)", "short_form(k, endless)", "beginning(k, endless, length)",
                "first_difference(k, one, other)", "are_tail_alike(k, one, other)", "are_level_alike(k, one, other)",
                "image(machine, word, endless)", "keeps(machine, word, endless)", "way(machine, word, endless, steps)",
                "round_of(machine, word, endless, most)"),
    "cores": ("is_directed(machine)", "least_core(machine)", "is_core_list(machine, words)",
              "depths(machine, words, *, most=8)", "fits(machine, words, table)", "full_core(machine)",
              "come_down(machine, words, word)"),
    "activity": ("activity(machine, word, level)", "activities(machine, word, level)", "series(machine, word)",
                 "degree(machine, word)", "machine_degree(machine)", "is_bounded(machine, word)"),
    "growth": ("ball(machine, length)", "growth(machine, length)", "least(machine, word)",
               "table(machine, length)", "is_finite(machine, length)"),
    "relations": ("is_relation(machine, word)", "first_relation(machine, length)", "relations(machine, length)",
                  "basic_relations(machine, length)"),
    "graphs": ("is_graph(graph)", "level_graph(machine, words, n)", "number_of(k, string)",
               "string_at(k, n, number)", "distance(graph, one, other)", "parts(graph)", "layers(graph, number)",
               "standard(graph, number)", "least_form(graph, number)", "over(upper, lower, k)"),
    "portraits": ("is_portrait(k, portrait)", "portrait_of(machine, word, depth)", "rest(k, depth)",
                  "acted(k, portrait, string)", "product(k, one, other)", "inverse(k, portrait)",
                  "section(k, portrait, string)", "level_of(k, portrait)", "from_level(k, n, numbers)",
                  "signs(k, portrait)", "count(k, depth)", "portrait_at(k, depth, number)",
                  "number_of_portrait(k, portrait)"),
    "decide": ("decide(machine, one, other)", "is_answer(machine, one, other, answer)",
               "decide_order(machine, word)", "is_order_answer(machine, word, answer)", "shows(answer)",
               "rest_level(machine, word)"),
    "certificates": ("is_closed_list(machine, words)", "shows_equal(machine, one, other, words)",
                     "shows_apart(machine, one, other, string)", "is_finite_order(machine, word, n, words, strings)",
                     "is_endless(machine, word, witness)", "shown(machine, one, other, answer)",
                     "order_shown(machine, word, answer)"),
    "lines": ("words_of(line)", "is_name(word)", "number_in(word)", "told(text)", "untold(word)"),
    "desk": (),
    "journal": ("attempt(journal, lines, *, keep=False)", "resume(text)"),
}
CLASSES = {
    "desk": {"Desk": ("__init__(self)", "answer(self, line)", "answers(self, lines)", "names(self)",
                      "thing(self, name)")},
    "journal": {"Journal": ("__init__(self)", "answer(self, line)", "record(self)", "lines(self)", "keep(self)",
                            "__enter__(self)", "__exit__(self, kind, value, trace)")},
}
# What the package may take from elsewhere, by the modules.
LIBRARY = {"math": ("gcd", "lcm", "isqrt", "comb", "perm", "factorial"),
           "heapq": ("heappush", "heappop", "heapify", "heapreplace", "heappushpop")}


def trees():
    return [(path, ast.parse(path.read_text())) for path in sorted(FOLDER.glob("**/*.py"))]


class Interface(unittest.TestCase):
    def test_names_and_arguments(self):
        for name, told in INTERFACE.items():
            module = importlib.import_module("leafturner." + name)
            for line in told:
                function = getattr(module, line.partition("(")[0])
                self.assertEqual(function.__name__ + str(inspect.signature(function)), line)
                self.assertEqual(function.__module__, module.__name__)

    def test_methods_stand_in_their_classes(self):
        for name, classes in CLASSES.items():
            module = importlib.import_module("leafturner." + name)
            for class_name, told in classes.items():
                found = getattr(module, class_name)
                self.assertEqual(found.__module__, module.__name__)
                for line in told:
                    method = vars(found)[line.partition("(")[0]]
                    self.assertEqual(method.__name__ + str(inspect.signature(method)), line)

    def test_each_file_is_told_in_the_readme(self):
        readme = (FOLDER.parent / "README.md").read_text()
        for path in FOLDER.glob("*.py"):
            if path.name != "__init__.py":
                self.assertIn(f"`leafturner.{path.stem}`", readme)

    def test_the_files_of_the_interface(self):
        """Each file of the document is there; the others are helpers of these."""
        helpers = {"explore", "tidy", "sorter", "errors", "__init__"}
        self.assertEqual({path.stem for path in FOLDER.glob("*.py")} - helpers, set(INTERFACE))


class Form(unittest.TestCase):
    def test_the_folder_contains_files_of_the_program_alone(self):
        for path in FOLDER.iterdir():
            self.assertTrue(path.suffix == ".py" or path.name == "__pycache__", path)

    def test_characters_lines_and_sizes(self):
        for path in sorted(FOLDER.glob("**/*.py")):
            text = path.read_bytes()
            self.assertTrue(all([byte == 10 or 32 <= byte <= 126 for byte in text]), path)
            lines = text.decode("ascii").splitlines()
            self.assertLessEqual(len(lines), 399, path)
            self.assertLessEqual(max([len(line) for line in lines]), 120, path)

    def test_functions_are_small(self):
        for path, tree in trees():
            for node in ast.walk(tree):
                if isinstance(node, ast.FunctionDef):
                    self.assertLessEqual(node.end_lineno - node.lineno + 1, 40, (path, node.name))
                    self.assertEqual(node.decorator_list, [], (path, node.name))

    def test_imports(self):
        for path, tree in trees():
            for node in ast.walk(tree):
                self.assertNotIsInstance(node, (ast.Import, ast.Global, ast.AsyncFunctionDef), path)
                if isinstance(node, ast.ImportFrom):
                    for alias in node.names:
                        self.assertIsNone(alias.asname, (path, alias.name))
                        self.assertTrue(alias.name in LIBRARY.get(node.module, ())
                                        or self.defines(node.module, alias.name), (path, alias.name))

    def defines(self, module, name):
        self.assertTrue(module.startswith("leafturner."), module)
        tree = ast.parse((FOLDER / (module.partition(".")[2] + ".py")).read_text())
        for node in tree.body:
            if isinstance(node, (ast.FunctionDef, ast.ClassDef)) and node.name == name:
                return True
            if isinstance(node, ast.Assign) and node.targets[0].id == name:
                return True
        return False

    def test_no_name_hides_a_builtin_or_an_import(self):
        for path, tree in trees():
            imported = [alias.name for node in ast.walk(tree) if isinstance(node, ast.ImportFrom)
                        for alias in node.names]
            classes = [node.name for node in ast.walk(tree) if isinstance(node, ast.ClassDef)]
            for node in ast.walk(tree):
                name = None
                if isinstance(node, ast.arg):
                    name = node.arg
                elif isinstance(node, ast.Name) and isinstance(node.ctx, ast.Store):
                    name = node.id
                elif isinstance(node, ast.FunctionDef) and node.name != "__init__":
                    name = node.name
                if name is not None:
                    self.assertFalse(hasattr(builtins, name), (path, name))
                    self.assertNotIn(name, imported + classes, path)

    def test_messages_of_errors_are_plain(self):
        """A number in a message may be too long to be written out."""
        for path, tree in trees():
            for node in ast.walk(tree):
                if isinstance(node, ast.Raise) and node.exc is not None:
                    if node.exc.func.id not in ("Malformed", "BadJournal"):
                        self.assertEqual([isinstance(each, ast.Constant) for each in node.exc.args], [True], path)

    def test_generator_expressions_read_nothing_that_is_kept(self):
        for path, tree in trees():
            for function in ast.walk(tree):
                if isinstance(function, ast.FunctionDef):
                    kept = [node.targets[0].id for node in ast.walk(function) if isinstance(node, ast.Assign)
                            and isinstance(node.value, ast.Call) and isinstance(node.value.func, ast.Name)
                            and node.value.func.id in ("range", "zip", "enumerate", "reversed")]
                    read = [node.id for each in ast.walk(function) if isinstance(each, (ast.GeneratorExp, ast.Lambda))
                            for node in ast.walk(each) if isinstance(node, ast.Name)]
                    self.assertEqual([name for name in kept if name in read], [], (path, function.name))

    def test_no_floats_and_no_percent_signs(self):
        for path, tree in trees():
            for node in ast.walk(tree):
                self.assertNotIsInstance(node, ast.Div, path)
                if isinstance(node, ast.Constant):
                    self.assertNotIsInstance(node.value, float, path)
                    if isinstance(node.value, str):
                        self.assertNotIn("%", node.value, path)


if __name__ == "__main__":
    unittest.main()
