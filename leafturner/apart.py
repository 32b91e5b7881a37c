"""Words that are not equal: first strings, classes, and least words."""

from leafturner.closed import first_difference
from leafturner.errors import BadNumber, TooLarge
from leafturner.machines import check_machine
from leafturner.sorter import Sorter, rings_of
from leafturner.tidy import Tidy
from leafturner.words import check_word, cut

MOST_WORDS = 60
MOST_LEAST_WORDS = 200
LONGEST_LEAST_WORD = 6


def first_string(machine, one, other):
    check_word(machine, one)
    check_word(machine, other)
    return first_difference(Tidy(machine), one, other)


def classes(machine, words):
    check_machine(machine)
    for word in words:
        check_word(machine, word)
    if len(words) > MOST_WORDS:
        raise TooLarge("too many words")
    sorter = Sorter(machine)
    indexes = {}
    result = []
    for index, word in enumerate(words):
        first = sorter.first_equal(word)
        indexes.setdefault(first, index)
        result.append(indexes[first])
    return result


def check_length(length):
    if length not in range(LONGEST_LEAST_WORD + 1):
        raise BadNumber("not a number of letters of least words")


def table(machine, length):
    check_machine(machine)
    check_length(length)
    rings = rings_of(machine, length, Sorter(machine), MOST_LEAST_WORDS)
    return [word for ring in rings for word in ring]


def least_word(machine, word, *, most=4):
    check_word(machine, word)
    check_length(most)
    sorter = Sorter(machine)
    rings_of(machine, most, sorter, MOST_LEAST_WORDS)
    return sorter.known(cut(word))
