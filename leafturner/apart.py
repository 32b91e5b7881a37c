"""Words that are not equal: first strings, classes, and least words."""

from leafturner.closed import quotient, walk
from leafturner.errors import BadNumber, TooLarge
from leafturner.machines import check_machine
from leafturner.sections import read_string, steps_of
from leafturner.words import check_word, cut, letters_of

MOST_WORDS = 60
MOST_LEAST_WORDS = 200
LONGEST_LEAST_WORD = 6


class Shelf:
    """One word, or a string and the shelves of the words that have different images of it."""

    def __init__(self, word):
        self.word = word
        self.string = None
        self.below = {}


class Sorter:
    """Takes words one after the other and tells for each the first one that is equal to it."""

    def __init__(self, machine):
        self.steps = steps_of(machine)
        self.top = None

    def image(self, word, string):
        written, _ = read_string(self.steps, word, string)
        return written

    def first_equal(self, word):
        if self.top is None:
            self.top = Shelf(word)
            return word
        shelf = self.top
        while shelf.string is not None:
            written = self.image(word, shelf.string)
            if written not in shelf.below:
                shelf.below[written] = Shelf(word)
            shelf = shelf.below[written]
        self.tell_apart(shelf, word)
        return shelf.word if shelf.string is None else word

    def tell_apart(self, shelf, word):
        """Make a shelf tell a word from its own one, if they are not equal."""
        string = first_difference(self.steps, word, shelf.word)
        if string is not None:
            shelf.string = string
            for each in (shelf.word, word):
                shelf.below[self.image(each, string)] = Shelf(each)


def first_difference(steps, one, other):
    _, moved = walk(steps, quotient(one, other))
    return moved


def first_string(machine, one, other):
    check_word(machine, one)
    check_word(machine, other)
    return first_difference(steps_of(machine), one, other)


def classes(machine, words):
    check_machine(machine)
    for word in words:
        check_word(machine, word)
    if len(words) > MOST_WORDS:
        raise TooLarge("too many words")
    sorter = Sorter(machine)
    indexes = {}
    result = []
    for index, word in enumerate(words):
        first = sorter.first_equal(word)
        indexes.setdefault(first, index)
        result.append(indexes[first])
    return result


def least_words(machine, length, sorter):
    """Return the least words of up to so many letters in their order, and hand them to a new sorter."""
    found = [sorter.first_equal("")]
    ring = found
    for _ in range(length):
        ring = next_ring(machine, ring, sorter, MOST_LEAST_WORDS - len(found))
        found = found + ring
    return found


def next_ring(machine, ring, sorter, most):
    """Return the least words with one letter more than those of a ring, which are at most so many."""
    made = []
    for word in ring:
        for letter in letters_of(machine):
            longer = word + letter
            # All parts of a least word are least words, and all that come before it are sorted.
            if cut(longer) == longer and sorter.first_equal(longer) == longer:
                made.append(longer)
        if len(made) > most:
            raise TooLarge("too many least words")
    return made


def check_length(length):
    if length not in range(LONGEST_LEAST_WORD + 1):
        raise BadNumber("not a number of letters of least words")


def table(machine, length):
    check_machine(machine)
    check_length(length)
    return least_words(machine, length, Sorter(machine))


def least_word(machine, word, *, most=4):
    check_word(machine, word)
    check_length(most)
    sorter = Sorter(machine)
    found = least_words(machine, most, sorter)
    first = sorter.first_equal(cut(word))
    return first if first in found else None
