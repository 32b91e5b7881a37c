"""Words of the states of a machine."""

from leafturner.errors import NotWord
from leafturner.machines import check_machine

SMALL_LETTERS = "abcdefgh"
LARGE_LETTERS = "ABCDEFGH"
LETTERS_IN_ORDER = "aAbBcCdDeEfFgGhH"
LONGEST_WORD = 60


def letters_of(machine):
    """Return the letters of a machine in their order."""
    return LETTERS_IN_ORDER[:2 * len(machine[1])]


def has_letters(machine, word):
    letters = letters_of(machine)
    return all(letter in letters for letter in word)


def check_word(machine, word):
    check_machine(machine)
    if len(word) > LONGEST_WORD or not has_letters(machine, word):
        raise NotWord("not a word of the machine, or too long")


def cut_word(machine, word):
    check_word(machine, word)
    return cut(word)


def cut(word):
    """Return the cut word of a word of any length."""
    kept = []
    for letter in word:
        if kept and kept[-1] == letter.swapcase():
            kept.pop()
        else:
            kept.append(letter)
    return "".join(kept)


def undone_word(machine, word):
    check_word(machine, word)
    return undone(word)


def undone(word):
    """Return the undone word of a word of any length."""
    return word[::-1].swapcase()


def is_before(machine, one, other):
    check_word(machine, one)
    check_word(machine, other)
    return (len(one), places(one)) < (len(other), places(other))


def places(word):
    """Return the places of the letters of a word in the order of all letters."""
    return [LETTERS_IN_ORDER.find(letter) for letter in word]
