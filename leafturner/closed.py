"""Words that are equal, and the closed lists that show it."""

from leafturner.errors import TooLarge
from leafturner.machines import DIGITS, check_machine
from leafturner.sections import CutSections, cut_row, steps_of
from leafturner.tidy import Tidy
from leafturner.words import check_word, cut, has_letters, undone

MOST_SECTIONS = 4000


def walk(reader, word):
    """Follow a word from section to section, until all are found or one of them moves a digit.

    Returns the list of the sections in the order in which they are found, and the first string
    that the word does not keep, or None.
    """
    strings = {word: ""}
    found = [word]
    at = 0
    while at < len(found):
        string = strings[found[at]]
        row = reader.row(found[at])
        for x, (out, section) in enumerate(row):
            if out != x:
                return found, string + DIGITS[x]
            if section not in strings:
                strings[section] = string + DIGITS[x]
                found.append(section)
        if len(found) > MOST_SECTIONS:
            raise TooLarge("a word has too many different cut sections")
        at += 1
    return found, None


def first_moved(tidy, word):
    """Return the first string that a word of any length does not keep, or None if it is at rest."""
    _, moved = walk(tidy, tidy.tidied(word))
    return moved


def first_difference(tidy, one, other):
    """Return the first string of two words of any length, or None if they are equal."""
    return first_moved(tidy, one + undone(other))


def is_closed(machine, words):
    check_machine(machine)
    listed = {word: True for word in words}
    if len(listed) < len(words) or not all(has_letters(machine, word) for word in words):
        return False
    steps = steps_of(machine)
    return all(is_closed_at(steps, word, listed) for word in words)


def is_closed_at(steps, word, listed):
    """Tell whether a word is cut, moves no digit, and has all its cut sections listed."""
    if cut(word) != word:
        return False
    row = cut_row(steps, word)
    return all(out == x and section in listed for x, (out, section) in enumerate(row))


def closed_list(machine, word):
    check_word(machine, word)
    found, moved = walk(CutSections(machine), cut(word))
    if moved is not None:
        return None
    return found


def is_at_rest(machine, word):
    check_word(machine, word)
    return first_moved(Tidy(machine), word) is None


def are_equal(machine, one, other):
    check_word(machine, one)
    check_word(machine, other)
    return first_difference(Tidy(machine), one, other) is None
