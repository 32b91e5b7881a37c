"""Tidy words: letters at rest are left out, letters that are alike are told by one, and what undoes itself is cut.

A tidy word is equal to the word that it is made of. Far fewer of them than of cut words have to be gone through.
"""

from leafturner.least import alike_numbers
from leafturner.sections import steps_of
from leafturner.words import letters_of


def numbered_letters(machine):
    """Return the rows of the empty word and of the letters in their order."""
    steps = steps_of(machine)
    letters = letters_of(machine)
    rows = [tuple([(x, 0) for x in range(machine[0])])]
    for letter in letters:
        rows.append(tuple([(out, letters.index(after) + 1) for out, after in steps[letter]]))
    return rows


class Tidy:
    """Tells which letters of a machine are alike, and tidies words and their sections."""

    def __init__(self, machine):
        rows = numbered_letters(machine)
        letters = [""] + list(letters_of(machine))
        first = {}
        self.names = {}
        for number, letter in zip(alike_numbers(rows), letters):
            first.setdefault(number, letter)
            self.names[letter] = first[number]
        self.digits = machine[0]
        self.steps = {}
        self.undone = {}
        for letter, row in zip(letters, rows):
            self.steps[letter] = tuple([(out, self.names[letters[after]]) for out, after in row])
            self.undone[letter] = self.names[letter.swapcase()]

    def tidied(self, word):
        """Return the tidy word of any word."""
        return self.joined([self.names[letter] for letter in word])

    def joined(self, names):
        kept = []
        for name in names:
            if name != "":
                if kept and kept[-1] == self.undone[name]:
                    kept.pop()
                else:
                    kept.append(name)
        return "".join(kept)

    def row(self, word):
        """Return the digits to which a tidy word takes the digits, each with the tidy section there."""
        return [self.read(word, x) for x in range(self.digits)]

    def read(self, word, x):
        section = []
        for letter in word:
            x, after = self.steps[letter][x]
            section.append(after)
        return x, self.joined(section)
