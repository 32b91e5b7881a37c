import unittest

import support
from leafturner import texts
from leafturner.errors import Malformed, NotMachine
from test_machines import WRONG

FIRST = "2 / 1:1 0:0 / 0:1 1:1"


def text_slowly(machine):
    parts = [str(machine[0])]
    for row in machine[1]:
        parts.append("/ " + " ".join([str(out) + ":" + str(after) for out, after in row]))
    return " ".join(parts)


class Texts(unittest.TestCase):
    """[10]."""

    def test_the_example(self):
        self.assertEqual(texts.text_of(support.FIRST), FIRST)
        self.assertEqual(texts.read_machine(FIRST), support.FIRST)

    def test_both_ways(self):
        wide = [support.cycle(k, states) for k in (2, 3, 4) for states in (1, 8, 9, 10, 101, 200)]
        for machine in support.MACHINES + tuple(support.some_machines(20, 30, 120)) + tuple(wide):
            text = texts.text_of(machine)
            self.assertEqual(text, text_slowly(machine))
            self.assertEqual(texts.read_machine(text), machine)
            self.assertEqual(texts.text_of(texts.read_machine(text)), text)

    def test_the_text_of_no_machine(self):
        for machine in WRONG.values():
            self.assertRaises(NotMachine, texts.text_of, machine)


class Wrong(unittest.TestCase):
    def assert_malformed(self, text, at):
        with self.assertRaises(Malformed) as caught:
            texts.read_machine(text)
        self.assertEqual(caught.exception.at, at, text)

    def test_the_first_word(self):
        for word in ("", "0", "1", "5", "9", "02", "22", "-2", "+2", "2.", "k", "/", "2:", "1:1", "\u0662", "2\n", "2\t"):
            self.assert_malformed(word, 0)
            self.assert_malformed(word + " / 1:1 0:0 / 0:1 1:1", 0)

    def test_the_marks(self):
        for word in ("", "//", "\\", "0", "0:0", "1:1", "2", ":", "|", "/0:0", "/\n"):
            self.assert_malformed("2 " + word, 1)
            self.assert_malformed("2 " + word + " 1:1 0:0 / 0:1 1:1", 1)
            self.assert_malformed("2 / 1:1 0:0 " + word + " 0:1 1:1", 4)
            self.assert_malformed("2 / 1:1 0:0 / 0:1 1:1 " + word, 7)

    def test_the_entries(self):
        wrong = ("", "/", ":", "0", "0:", ":0", "00", "0:0:0", "0::0", "00:0", "01:0", "2:0", "3:0", "9:0", "-1:0",
                 "0:00", "0:01", "0:001", "0:1000", "0:0000", "0:-1", "0:+1", "0:1.", "0:x", "x:0", "0;0", "0/0",
                 "0:1\n", "\n0:1", "0:\u0661", "\u0661:0", "0:1_0", "0: ", "1:1/", "10:0", "0.0")
        for word in wrong:
            self.assert_malformed("2 / " + word + " 0:0 / 0:1 1:1", 2)
            self.assert_malformed("2 / 1:1 " + word + " / 0:1 1:1", 3)
            self.assert_malformed("2 / 1:1 0:0 / " + word + " 1:1", 5)
            self.assert_malformed("2 / 1:1 0:0 / 0:1 " + word, 6)

    def test_an_entry_more_or_less(self):
        self.assert_malformed("2 / 1:1 0:0 0:0 / 0:1 1:1", 4)
        self.assert_malformed("2 / 1:1 / 0:1 1:1", 3)
        self.assert_malformed("3 / 1:1 0:0 / 0:1 1:1", 4)

    def test_digits_that_are_written(self):
        self.assert_malformed("2 / 1:1 2:0", 3)
        self.assertEqual(texts.read_machine("3 / 1:0 2:0 0:0"), (3, (((1, 0), (2, 0), (0, 0)),)))
        self.assert_malformed("3 / 1:0 3:0 0:0", 3)
        self.assertEqual(texts.read_machine("4 / 1:0 2:0 0:0 3:0"), (4, (((1, 0), (2, 0), (0, 0), (3, 0)),)))
        self.assert_malformed("4 / 1:0 2:0 0:0 4:0", 5)

    def test_spaces(self):
        self.assert_malformed(" " + FIRST, 0)
        self.assert_malformed(FIRST + " ", 7)
        self.assert_malformed("2  / 1:1 0:0", 1)
        self.assert_malformed("2 /  1:1 0:0", 2)
        self.assert_malformed("2 / 1:1  0:0", 3)
        self.assert_malformed("2 / 1:1 0:0  / 0:1 1:1", 4)
        self.assert_malformed(" ", 0)
        self.assert_malformed("2\t/ 1:1 0:0", 0)

    def test_texts_that_end_too_early(self):
        for machine in support.MACHINES:
            parts = texts.text_of(machine).split(" ")
            for count in range(1, len(parts)):
                if count == 1 or (count - 1) % (machine[0] + 1) != 0:
                    self.assert_malformed(" ".join(parts[:count]), count)

    def test_the_first_wrong_word_counts(self):
        self.assert_malformed("2 / 1:x 0:x", 2)
        self.assert_malformed("5 x", 0)
        # A wrong form comes before a machine that there is not.
        self.assert_malformed("2 / 1:9 1:9 / x", 5)
        self.assert_malformed("2 / 1:9 1:9 /", 5)

    def test_the_right_form_that_tells_no_machine(self):
        wrong = ("2 / 1:0 1:0", "2 / 0:0 0:0", "3 / 0:0 1:0 0:0", "2 / 0:0 1:1", "2 / 0:1 1:0", "2 / 0:0 1:999",
                 "2 / 1:1 0:0 / 0:1 1:2", "2 / 1:1 0:0 / 0:1 0:1", text_slowly(support.cycle(2, 201)),
                 text_slowly(support.cycle(4, 300)))
        for text in wrong:
            self.assertRaises(NotMachine, texts.read_machine, text)


if __name__ == "__main__":
    unittest.main()
