import random
import unittest

import support
from leafturner import (activity, apart, closed, decide, graphs, growth, least, levels, machines, orders, portraits,
                        sections, texts, wordmachine, words)
from leafturner.desk import Desk
from leafturner.errors import LeafError
from test_decide import SIX

FIRST = support.FIRST
FOUR = support.FOUR_STATES
LINE = "machine f 2 / 1:1 0:0 / 0:1 1:1"

# For each command, lines behind it that are answered, and the answers, on a desk with f, four and six.
ANSWERED = {
    "machine": {"n 2 / 1:1 0:0 / 0:1 1:1": "2", "f 2 / 0:0 1:0": "1", "n 4 / 3:0 2:0 1:0 0:0": "1"},
    "drop": {"f": "ok", "four": "ok"},
    "show": {"f": "2 / 1:1 0:0 / 0:1 1:1", "six": "3 / 1:2 2:2 0:1 / 1:2 0:2 2:2 / 0:2 1:2 2:2"},
    "undo": {"n f": "2", "f f": "2", "n four": "5"},
    "least": {"n f 0": "2", "n f 1": "1", "f f 1": "1", "n four 4": "1"},
    "behind": {"n f 0 f 0": "4", "f f 1 f 1": "1", "n f 0 f 1": "2"},
    "digits": {"n f 10": "2", "n f 01": "2", "f f 10": "2", "n six 120": "3"},
    "states": {"n f 10": "2", "f f 10": "2", "n four 43210": "5", "n six 021": "3"},
    "alike": {"f 0 f 0": "yes", "f 0 f 1": "0", "four 4 f 1": "yes", "four 1 four 2": "100"},
    "image": {"f a 110": "001", "f A 001": "110", "f a -": "-", "f - 01": "01", "f - -": "-", "six a 02": "12"},
    "section": {"f aa 0": "ba", "f aa 1": "ab", "f aa -": "aa", "f - 0": "-", "f aA 0": "bB"},
    "cut": {"f aA": "-", "f -": "-", "f abBa": "aa"},
    "undone": {"f ab": "BA", "f -": "-", "f aA": "aA"},
    "rest": {"f b": "yes", "f a": "no", "f -": "yes"},
    "equal": {"f ab a": "yes", "f a A": "no", "f - b": "yes", "f - -": "yes"},
    "apart": {"f a A": "00", "f ab a": "none", "f a -": "0", "f - -": "none"},
    "sections": {"f a": "2", "f -": "1", "four a": "2"},
    "active": {"f a 99": "1", "f b 0": "0", "f - 5": "0", "f a 0": "1", "four ab 3": "1"},
    "degree": {"f a": "0", "free a": "none", "f b": "-1", "f -": "-1"},
    "order": {"f a": "endless", "f b": "finite 1", "four ab": "finite 16", "six a": "finite 6", "free a": "open"},
    "round": {"f a 5": "yes", "f b 1": "no", "f - 0": "yes", "f aa 1": "no"},
    "growth": {"f 3": "1 2 2 2", "f 0": "1", "four 2": "1 4 6"},
    "parts": {"f 3 a": "8", "f 2 b": "1 1 1 1", "f 2 aa": "2 2", "f 0 a": "1", "f 1 - a b A B -": "2",
              "six 1 b": "2 1"},
    "signs": {"f a 3": "-1 -1 -1", "f a 0": "empty", "f - 2": "1 1", "six a 2": "1 -1"},
    "decide": {"f ab a": "equal", "f a A": "apart", "f - -": "equal"},
}
# Lines with good forms that are refused.
REFUSED = {
    "machine": ("n", "n 2", "n 5 / 0:0", "n 2 / 0:0", "n 2 / 0:0 0:0", "n 2 / 1:1 0:1", "n 2 / 0:00 1:0", "n -",
                "n 2 /" + " / ".join([" 0:0 1:0"] * 9).replace("  ", " ")),
    "undo": (), "show": (), "drop": (),
    "least": ("n f 2", "n f 99"),
    "behind": ("n f 2 f 0", "n f 0 f 2", "n f 0 six 0", "n four 1 long 0"),
    "digits": ("n f 00", "n f 0", "n f 012", "n f 1x", "n f -", "n f 02", "n f x", "n six 10", "n f 1-0"),
    "states": ("n f 00", "n f 0", "n f 012", "n f 1x", "n f -", "n f 02", "n four 10"),
    "alike": ("f 2 f 0", "f 0 f 99", "f 0 six 0"),
    "image": ("f c 0", "f a 2", "f a x", "f x 0", "f a- 0", "f a 0-", "f " + "a" * 61 + " 0", "f a " + "0" * 61, "f a b"),
    "section": ("f c 0", "f a 2", "f " + "a" * 61 + " 0", "f a " + "0" * 61),
    "cut": ("f c", "f --", "f " + "a" * 61), "undone": ("f c", "f 1"), "rest": ("f c", "f 0"),
    "equal": ("f c a", "f a c"), "apart": ("f c a", "f a c"), "sections": ("f c",), "active": ("f c 0",),
    "degree": ("f c",), "order": ("f c",),
    "round": ("f c 0", "f a 13", "six a 8", "f a 99"),
    "growth": ("f 13", "f 99", "four 12"),
    "parts": ("f 11 a", "f 3 c", "f 3 a a a a a a a", "f 99 a", "f 3 a c", "six 7 a"),
    "signs": ("f a 7", "f c 0", "f a 99", "six a 7"),
    "decide": ("f c a", "f a c"),
}
# What is given for each kind of word, and what is no word of that kind.
GOOD = {"N": "n", "M": "f", "X": "0", "W": "a", "S": "0", "T": "10"}
NO_NAMES = ("F", "f1", "1", "-", "abcdefghijklm", "f-", "a.b", "/")
NO_NUMBERS = ("00", "01", "100", "-1", "+1", "x", "-", "1x", "1.", "0x1", "999999999")
FORMS = {
    "machine": "N", "drop": "M", "show": "M", "undo": "NM", "least": "NMX", "behind": "NMXMX", "digits": "NMT",
    "states": "NMT", "alike": "MXMX", "image": "MWS", "section": "MWS", "cut": "MW", "undone": "MW", "rest": "MW",
    "equal": "MWW", "apart": "MWW", "sections": "MW", "active": "MWX", "degree": "MW", "order": "MW", "round": "MWX",
    "growth": "MX", "parts": "MXW", "signs": "MWX", "decide": "MWW",
}


def new_desk():
    desk = Desk()
    for name, machine in (("f", FIRST), ("four", FOUR), ("six", SIX), ("free", support.FREE),
                          ("long", support.cycle(2, 7))):
        desk.answer(f"machine {name} {texts.text_of(machine)}")
    return desk


def state_of(desk):
    return {name: desk.thing(name) for name in desk.names()}


def good_line(command, changed=None, word=None):
    given = [GOOD[kind] for kind in FORMS[command]]
    if changed is not None:
        given[changed] = word
    return " ".join([command] + given)


class Tables(unittest.TestCase):
    """[281]."""

    def test_a_new_desk(self):
        desk = Desk()
        self.assertEqual(desk.names(), [])
        self.assertIsNone(desk.thing("f"))
        self.assertEqual(desk.answer("show f"), "unknown f")
        self.assertEqual(desk.answer(LINE), "2")
        self.assertEqual(desk.names(), ["f"])
        self.assertEqual(desk.thing("f"), FIRST)

    def test_each_command_is_answered(self):
        self.assertEqual(sorted(ANSWERED), sorted(FORMS))
        for command, lines in ANSWERED.items():
            for line, answer in lines.items():
                self.assertEqual(new_desk().answer(f"{command} {line}"), answer, (command, line))

    def test_what_is_put_under_a_name(self):
        made = {
            "machine n 2 / 1:1 0:0 / 0:1 1:1": FIRST, "undo n four": machines.undoing(FOUR),
            "least n four 1": least.least(FOUR, 1), "behind n f 0 four 4": machines.behind(FIRST, 0, FOUR, 4),
            "digits n six 120": machines.with_digits(SIX, (1, 2, 0)),
            "states n four 43210": machines.with_states(FOUR, (4, 3, 2, 1, 0)),
        }
        for line, machine in made.items():
            desk = new_desk()
            before = state_of(desk)
            self.assertEqual(desk.answer(line), str(len(machine[1])))
            before["n"] = machine
            self.assertEqual(state_of(desk), before, line)

    def test_other_lines_change_nothing(self):
        for command, form in FORMS.items():
            if form[0] != "N" and command != "drop":
                for line in ANSWERED[command]:
                    desk = new_desk()
                    before = state_of(desk)
                    desk.answer(f"{command} {line}")
                    self.assertEqual(state_of(desk), before)

    def test_a_name_that_is_read_may_be_put(self):
        for line, machine in (("undo six six", machines.undoing(SIX)), ("least six six 1", least.least(SIX, 1)),
                              ("behind six six 0 six 1", machines.behind(SIX, 0, SIX, 1)),
                              ("digits six six 120", machines.with_digits(SIX, (1, 2, 0))),
                              ("states six six 120", machines.with_states(SIX, (1, 2, 0)))):
            desk = new_desk()
            names = desk.names()
            self.assertEqual(desk.answer(line), str(len(machine[1])))
            self.assertEqual(desk.thing("six"), machine)
            self.assertEqual(desk.names(), names)

    def test_what_was_there_is_replaced(self):
        desk = new_desk()
        self.assertEqual(desk.answer("machine f 2 / 0:0 1:0"), "1")
        self.assertEqual(desk.answer("show f"), "2 / 0:0 1:0")
        self.assertEqual(desk.answer("rest f a"), "yes")

    def test_drop(self):
        desk = new_desk()
        self.assertEqual(desk.answers(["drop f", "drop f", "show f", "drop four", "undo n f"]),
                         ["ok", "unknown f", "unknown f", "ok", "unknown f"])
        self.assertEqual(desk.names(), ["free", "long", "six"])
        self.assertEqual(desk.answer(LINE), "2")
        self.assertEqual(desk.answer("drop f"), "ok")

    def test_names_and_things(self):
        desk = Desk()
        for name in ("zeta", "a", "mid", "abcdefghijkl"):
            self.assertEqual(desk.answer(f"machine {name} 2 / 0:0 1:0"), "1")
        self.assertEqual(desk.names(), ["a", "abcdefghijkl", "mid", "zeta"])
        self.assertEqual(desk.thing("mid"), (2, (((0, 0), (1, 0)),)))
        self.assertIsNone(desk.thing("other"))


class Operations(unittest.TestCase):
    """[281] and [282]: each command is a function of the interface."""

    def told(self, value):
        if value is None:
            return "none"
        if value is True or value is False:
            return "yes" if value else "no"
        if isinstance(value, list):
            return " ".join([str(each) for each in value]) or "empty"
        return "-" if value == "" else str(value)

    def expected(self, function, *values):
        try:
            return self.told(function(*values))
        except LeafError:
            return "refused"

    def test_against_the_functions(self):
        rng = random.Random(281)
        answers = {}
        for machine in (FIRST, FOUR, SIX, support.LAMPS) + tuple(support.some_machines(281, 25, 3)):
            desk = Desk()
            desk.answer("machine m " + texts.text_of(machine))
            one, other = support.some_word(rng, machine, 3), support.some_word(rng, machine, 3)
            string = support.some_string(rng, machine[0], 4)
            level = rng.choice((0, 1, 2, 3, 7, 13))
            u, v, s = self.told(one), self.told(other), self.told(string)
            cases = {
                f"image m {u} {s}": (sections.image_of, machine, one, string),
                f"section m {u} {s}": (sections.section_of, machine, one, string),
                f"cut m {u}": (words.cut_word, machine, one), f"undone m {u}": (words.undone_word, machine, one),
                f"rest m {u}": (closed.is_at_rest, machine, one), f"equal m {u} {v}": (closed.are_equal, machine, one, other),
                f"apart m {u} {v}": (apart.first_string, machine, one, other),
                f"sections m {u}": (wordmachine.section_count, machine, one),
                f"active m {u} {level}": (activity.activity, machine, one, level),
                f"degree m {u}": (activity.degree, machine, one),
                f"order m {u}": (self.order_of, machine, one),
                f"round m {u} {level}": (levels.is_round, machine, one, level),
                f"growth m {level}": (growth.growth, machine, level),
                f"parts m {level} {u} {v}": (self.parts_of, machine, [one, other], level),
                f"signs m {u} {level}": (self.signs_of, machine, one, level),
                f"decide m {u} {v}": (self.decided, machine, one, other),
                f"show m": (texts.text_of, machine),
            }
            for line, call in cases.items():
                answer = desk.answer(line)
                self.assertEqual(answer, self.expected(*call), line)
                answers[answer] = True
            string = least.first_apart(machine, 0, machine, len(machine[1]) - 1)
            self.assertEqual(desk.answer(f"alike m 0 m {len(machine[1]) - 1}"), "yes" if string is None else string)
        for answer in ("yes", "no", "none", "empty", "refused", "equal", "apart", "endless", "finite 1", "-"):
            self.assertIn(answer, answers)

    def order_of(self, machine, word):
        kind, many = orders.order(machine, word)
        return f"finite {many}" if kind == "finite" else kind

    def parts_of(self, machine, some_words, level):
        return [len(part) for part in graphs.parts(graphs.level_graph(machine, some_words, level))]

    def signs_of(self, machine, word, depth):
        return portraits.signs(machine[0], portraits.portrait_of(machine, word, depth))

    def decided(self, machine, one, other):
        return decide.shows(decide.decide(machine, one, other))

    def test_three_answers_agree(self):
        """[283]."""
        rng = random.Random(283)
        for machine in support.MACHINES + tuple(support.some_machines(283, 20, 3)):
            desk = Desk()
            desk.answer("machine m " + texts.text_of(machine))
            for _ in range(4):
                u, v = [self.told(support.some_word(rng, machine, 3)) for _ in range(2)]
                equal, first, decided = desk.answers([f"equal m {u} {v}", f"apart m {u} {v}", f"decide m {u} {v}"])
                self.assertEqual((equal == "yes", equal == "no"), (first == "none", first != "none"))
                self.assertEqual(decided, "equal" if equal == "yes" else "apart")


class Wrong(unittest.TestCase):
    """[282]."""

    def unchanged(self, line, answer):
        desk = new_desk()
        before = state_of(desk)
        self.assertEqual(desk.answer(line), answer, line)
        self.assertEqual(state_of(desk), before, line)

    def test_malformed_lines(self):
        for line in ("", " ", "show  f", " show f", "show f ", "show\tf", "show f\n", "show f%", "show \u0066\u00e9", "%"):
            self.unchanged(line, "bad")

    def test_no_commands(self):
        for line in ("x", "f", "Show f", "SHOW f", "showf", "show-f", "answer f", "machines f 2", "help", "-", "drop_ f",
                     "names", "thing f", "undoing n f", "text_of f", "is_round f a 1", "__init__", "M", "least_word f a"):
            self.unchanged(line, "bad")

    def test_numbers_of_words(self):
        for command, form in FORMS.items():
            line = good_line(command)
            self.assertNotIn(new_desk().answer(line), ("bad", "unknown n"), line)
            parts = line.split(" ")
            for many in range(1, len(parts)):
                self.unchanged(" ".join(parts[:many]), "bad")
            if command not in ("machine", "parts"):
                self.unchanged(line + " a", "bad")
                self.unchanged(line + " 0", "bad")
                self.unchanged(line + " f", "bad")

    def test_any_number_of_words(self):
        self.assertEqual(new_desk().answer("machine n"), "refused")
        self.assertEqual(new_desk().answer("machine n " + " ".join(["0"] * 900)), "refused")
        self.assertEqual(new_desk().answer("parts f 1 a a a a a a"), "2")
        self.assertEqual(new_desk().answer("parts f 1"), "bad")
        self.assertEqual(new_desk().answer("parts f 1 a a a a a a a"), "refused")

    def test_words_that_must_be_names_or_numbers(self):
        for command, form in FORMS.items():
            for at, kind in enumerate(form):
                for word in {"N": NO_NAMES, "M": NO_NAMES, "X": NO_NUMBERS}.get(kind, ()):
                    self.unchanged(good_line(command, at, word), "bad")

    def test_unknown_names(self):
        for command, form in FORMS.items():
            for at, kind in enumerate(form):
                if kind == "M":
                    self.unchanged(good_line(command, at, "nobody"), "unknown nobody")
                    self.unchanged(good_line(command, at, "abcdefghijkl"), "unknown abcdefghijkl")
        self.unchanged("alike one 0 two 0", "unknown one")
        self.unchanged("alike f 0 two 0", "unknown two")
        self.unchanged("behind new one 0 two 0", "unknown one")
        # A name under which something is put need not have a machine.
        self.assertEqual(new_desk().answer("undo n f"), "2")

    def test_refused_lines(self):
        self.assertEqual(sorted(REFUSED), sorted(FORMS))
        for command, lines in REFUSED.items():
            for line in lines:
                self.unchanged(f"{command} {line}", "refused")

    def test_more_than_8_states(self):
        text = "2" + " / 0:0 1:0" * 8
        self.assertEqual(new_desk().answer("machine n " + text), "8")
        self.unchanged("machine n " + text + " / 0:0 1:0", "refused")
        self.unchanged("machine f " + text + " / 0:0 1:0", "refused")
        # A machine of more than 8 states is refused, and so is one of more than 200.
        self.unchanged("machine n 2" + " / 0:0 1:0" * 200, "refused")
        self.unchanged("machine n 2" + " / 0:0 1:0" * 201, "refused")
        self.assertGreater(len(machines.behind(FOUR, 1, support.cycle(2, 7), 0)[1]), 8)
        self.unchanged("behind n four 1 long 0", "refused")
        self.unchanged("behind four four 1 long 0", "refused")

    def test_bad_comes_before_unknown(self):
        for line in ("show nobody x", "image nobody a", "least n nobody x", "least N nobody 0", "alike nobody 0 F 0",
                     "alike nobody 0 f 00", "parts nobody 1", "active nobody a 100", "undo n1 nobody"):
            self.unchanged(line, "bad")

    def test_unknown_comes_before_refused(self):
        for line, name in (("image nobody c 2", "nobody"), ("alike f 99 nobody 0", "nobody"), ("digits n nobody x", "nobody"),
                           ("parts nobody 99 a", "nobody"), ("behind n f 9 nobody 9", "nobody"),
                           ("growth nobody 99", "nobody"), ("states n nobody -", "nobody")):
            self.unchanged(line, f"unknown {name}")

    def test_drop_is_never_refused(self):
        for name in new_desk().names():
            self.assertEqual(new_desk().answer(f"drop {name}"), "ok")


class Lists(unittest.TestCase):
    """[283]."""

    LINES = [LINE, "show f", "undo g f", "behind h f 0 g 0", "alike h 0 f 1", "drop f", "rest f a", "rest g a", "x", "",
             "machine f 2", "least g g 1", "show g", "image g a 0"]
    ANSWERS = ["2", "2 / 1:1 0:0 / 0:1 1:1", "2", "2", "yes", "ok", "unknown f", "no", "bad", "bad",
               "refused", "1", "2 / 0:0 1:0", "0"]

    def test_answers(self):
        self.assertEqual(Desk().answers(self.LINES), self.ANSWERS)
        self.assertEqual(Desk().answers([]), [])

    def test_the_first_answers_do_not_depend_on_later_lines(self):
        for many in range(len(self.LINES) + 1):
            self.assertEqual(Desk().answers(self.LINES[:many]), self.ANSWERS[:many])
            desk = Desk()
            self.assertEqual([desk.answer(line) for line in self.LINES[:many]], self.ANSWERS[:many])
            self.assertEqual(desk.answers(self.LINES[many:]), self.ANSWERS[many:])

    def test_two_desks(self):
        one, other = Desk(), Desk()
        one.answer(LINE)
        self.assertEqual(other.answer("show f"), "unknown f")
        other.answer("machine f 2 / 0:0 1:0")
        one.answer("drop f")
        self.assertEqual((one.names(), other.names()), ([], ["f"]))
        self.assertEqual(other.answer("show f"), "2 / 0:0 1:0")


class Sharing(unittest.TestCase):
    """[0]."""

    def test_lists_are_not_shared(self):
        desk = new_desk()
        lines = ["show f", "rest f b"]
        answers = desk.answers(lines)
        self.assertEqual(lines, ["show f", "rest f b"])
        answers.append("x")
        desk.names().clear()
        self.assertEqual(desk.names(), ["f", "four", "free", "long", "six"])
        self.assertEqual(desk.answers(lines), ["2 / 1:1 0:0 / 0:1 1:1", "yes"])

    def test_machines_have_no_lists(self):
        desk = new_desk()
        for line in ("undo n four", "least o four 1", "behind p f 0 f 0", "digits q six 120", "states r four 43210"):
            self.assertNotIn(desk.answer(line), ("bad", "refused"))
        for name in desk.names():
            machine = desk.thing(name)
            self.assertIsInstance(machine, tuple)
            self.assertTrue(all([isinstance(row, tuple) and all([isinstance(entry, tuple) for entry in row])
                                 for row in machine[1]]))
            self.assertIsInstance(machine[1], tuple)


if __name__ == "__main__":
    unittest.main()
