"""How many turnings a machine has of each length: balls, rings, and word tables."""

from leafturner.errors import BadNumber
from leafturner.machines import check_machine
from leafturner.sorter import Sorter, rings_of
from leafturner.words import check_word, cut, letters_of

GREATEST_LENGTH = 12
MOST_WORDS = 600


def checked_rings(machine, length, sorter):
    """Return the rings 0 to a length, and hand them to a new sorter."""
    if length not in range(GREATEST_LENGTH + 1):
        raise BadNumber("not a length of words that are looked for")
    return rings_of(machine, length, sorter, MOST_WORDS)


def ball(machine, length):
    check_machine(machine)
    rings = checked_rings(machine, length, Sorter(machine))
    return [word for ring in rings for word in ring]


def growth(machine, length):
    check_machine(machine)
    return [len(ring) for ring in checked_rings(machine, length, Sorter(machine))]


def least(machine, word):
    check_word(machine, word)
    short = cut(word)
    sorter = Sorter(machine)
    rings_of(machine, len(short), sorter, MOST_WORDS)
    return sorter.known(short)


def table(machine, length):
    check_machine(machine)
    sorter = Sorter(machine)
    rings = checked_rings(machine, length, sorter)
    words = [word for ring in rings for word in ring]
    numbers = {word: number for number, word in enumerate(words)}
    rows = []
    for word in words:
        found = [sorter.known(cut(word + letter)) for letter in letters_of(machine)]
        rows.append([-1 if first is None else numbers[first] for first in found])
    return rows


def is_finite(machine, length):
    return growth(machine, length)[-1] == 0
