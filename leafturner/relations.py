"""Relations: cut words that change nothing, although they are not empty."""

from leafturner.closed import first_moved
from leafturner.errors import BadNumber, TooLarge
from leafturner.machines import check_machine
from leafturner.tidy import Tidy
from leafturner.words import check_word, cut, letters_of, places, undone

GREATEST_LENGTH = 12
MOST_WORDS = 5000


def check_length_of(machine, length):
    check_machine(machine)
    if length not in range(1, GREATEST_LENGTH + 1):
        raise BadNumber("not a length of relations that are looked for")


def next_cut_words(machine, ring):
    """Return the cut words with one letter more than those of a ring, in the order of all words."""
    letters = letters_of(machine)
    return [word + letter for word in ring for letter in letters if word[-1:] != letter.swapcase()]


def cut_words(machine, length):
    """Return the cut words of at most so many letters, the empty one aside, in order."""
    found = []
    ring = [""]
    for _ in range(length):
        ring = next_cut_words(machine, ring)
        if len(found) + len(ring) > MOST_WORDS:
            raise TooLarge("too many cut words")
        found.extend(ring)
    return found


def is_relation(machine, word):
    check_word(machine, word)
    return word != "" and cut(word) == word and first_moved(Tidy(machine), word) is None


def first_relation(machine, length):
    check_length_of(machine, length)
    tidy = Tidy(machine)
    left = MOST_WORDS
    ring = [""]
    for _ in range(length):
        ring = next_cut_words(machine, ring)
        for word in ring:
            # Only the words up to the first relation count, so a longer length may be asked for.
            if left == 0:
                raise TooLarge("too many cut words come before the first relation")
            if first_moved(tidy, word) is None:
                return word
            left -= 1
    return None


def relations(machine, length):
    check_length_of(machine, length)
    tidy = Tidy(machine)
    return [word for word in cut_words(machine, length) if first_moved(tidy, word) is None]


def basic_relations(machine, length):
    found = relations(machine, length)
    known = {word: True for word in found}
    return [word for word in found if is_first_rotation(word) and not has_shorter_part(word, known)]


def rotations(word):
    """Return the rotations of a word as they are, not cut."""
    return [word[at:] + word[:at] for at in range(len(word))]


def is_first_rotation(word):
    """Tell whether a word is the first one among its rotations and those of the undone word."""
    return min([places(other) for other in rotations(word) + rotations(undone(word))]) == places(word)


def has_shorter_part(word, known):
    """Tell whether a part of a rotation of a word, shorter than the word, is one of the known words."""
    # Each part of a rotation is a part of the word, written twice, that begins in the first copy.
    twice = word + word
    for length in range(1, len(word)):
        for at in range(len(word)):
            if twice[at:at + length] in known:
                return True
    return False
