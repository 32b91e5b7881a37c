"""The machines of words: their different sections, and how these lead to one another."""

from leafturner.errors import BadNumber
from leafturner.explore import explored
from leafturner.least import alike_numbers, merged
from leafturner.machines import check_string, read
from leafturner.sections import CutSections
from leafturner.words import check_word, cut

MOST_SECTION_WORDS = 1000


def found_sections(machine, word):
    """Return the section words of a word of the machine, and their rows by their numbers."""
    return explored(CutSections(machine), [cut(word)], MOST_SECTION_WORDS)


def section_words(machine, word):
    check_word(machine, word)
    found, _ = found_sections(machine, word)
    return found


def word_machine(machine, word):
    check_word(machine, word)
    _, rows = found_sections(machine, word)
    return merged((machine[0], rows))


def section_count(machine, word):
    return len(word_machine(machine, word)[1])


def are_same(machine, one, other):
    check_word(machine, one)
    check_word(machine, other)
    return word_machine(machine, one) == word_machine(machine, other)


def row_of(machine, word, string):
    check_word(machine, word)
    check_string(machine[0], string)
    _, row = read(word_machine(machine, word), 0, string)
    return row


def first_word(machine, word, row):
    check_word(machine, word)
    found, rows = found_sections(machine, word)
    numbers = alike_numbers(rows)
    if row not in numbers:
        raise BadNumber("no such section")
    return found[numbers.index(row)]


def resting_row(rows):
    """Return the number of the resting row of a word machine, or None."""
    for number, row in enumerate(rows):
        if all([entry == (x, number) for x, entry in enumerate(row)]):
            return number
    return None


def depth(machine, word):
    k, rows = word_machine(machine, word)
    resting = resting_row(rows)
    reached = [0]
    # The rows that do not rest lead to the resting one in fewer steps than there are rows, or they lead round.
    for level in range(len(rows)):
        active = [row for row in reached if row != resting]
        if not active:
            return level
        after = {rows[row][x][1]: True for row in active for x in range(k)}
        reached = list(after)
    return None


def acted(word_machine, string):
    check_string(word_machine[0], string)
    image, _ = read(word_machine, 0, string)
    return image
