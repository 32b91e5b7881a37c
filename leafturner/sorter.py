"""Taking words into classes of equal ones, by strings that tell them apart, and finding the least words."""

from leafturner.closed import first_difference
from leafturner.errors import TooLarge
from leafturner.sections import read_string, steps_of
from leafturner.tidy import Tidy
from leafturner.words import cut, letters_of


class Shelf:
    """One word, or a string and the shelves of the words that have different images of it."""

    def __init__(self, word):
        self.word = word
        self.string = None
        self.below = {}


class Sorter:
    """Takes words one after the other and tells for each the first one that is equal to it."""

    def __init__(self, machine):
        self.steps = steps_of(machine)
        self.tidy = Tidy(machine)
        self.top = None

    def image(self, word, string):
        written, _ = read_string(self.steps, word, string)
        return written

    def place(self, word):
        """Return the last shelf to which the images of a word lead, and the image that it has no shelf for."""
        shelf = self.top
        while shelf.string is not None:
            written = self.image(word, shelf.string)
            if written not in shelf.below:
                return shelf, written
            shelf = shelf.below[written]
        return shelf, None

    def known(self, word):
        """Return the first word that is equal to a word, among those that were taken, or None."""
        shelf, written = self.place(word)
        if written is not None or first_difference(self.tidy, word, shelf.word) is not None:
            return None
        return shelf.word

    def first_equal(self, word):
        """Take a word, and return the first one that is equal to it."""
        if self.top is None:
            self.top = Shelf(word)
            return word
        shelf, written = self.place(word)
        if written is not None:
            shelf.below[written] = Shelf(word)
            return word
        string = first_difference(self.tidy, word, shelf.word)
        if string is None:
            return shelf.word
        shelf.string = string
        for each in (shelf.word, word):
            shelf.below[self.image(each, string)] = Shelf(each)
        return word


def rings_of(machine, length, sorter, most):
    """Return the lists of the least words of 0, 1, .. letters, and hand them to a new sorter.

    Raises TooLarge if they are more than so many words together.
    """
    rings = [[sorter.first_equal("")]]
    left = most - 1
    for _ in range(length):
        rings.append(next_ring(machine, rings[-1], sorter, left))
        left -= len(rings[-1])
    return rings


def next_ring(machine, ring, sorter, most):
    """Return the least words with one letter more than those of a ring, which are at most so many."""
    least = {word: True for word in ring}
    made = []
    for word in ring:
        for letter in letters_of(machine):
            longer = word + letter
            # All that come before a word are sorted, so it is the first one of its class if it begins one.
            if may_be_least(longer, least) and sorter.first_equal(longer) == longer:
                made.append(longer)
        if len(made) > most:
            raise TooLarge("too many least words")
    return made


def may_be_least(word, shorter):
    """Tell whether a word is cut, and what stands behind its first letter is one of the shorter least words."""
    return cut(word) == word and word[1:] in shorter
