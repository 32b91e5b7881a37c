"""What words do to strings, and their sections."""

from leafturner.errors import BadNumber
from leafturner.machines import DIGITS, check_string, undoing
from leafturner.words import LARGE_LETTERS, SMALL_LETTERS, check_word, cut

LONGEST_KEPT = 8


def steps_of(machine):
    """Return a dict that has for each letter what it does with each digit: the digit and the letter that follow."""
    steps = {}
    for whole, letters in ((machine, SMALL_LETTERS), (undoing(machine), LARGE_LETTERS)):
        for letter, row in zip(letters, whole[1]):
            steps[letter] = tuple([(out, letters[after]) for out, after in row])
    return steps


def read_digit(steps, word, x):
    """Return the digit to which a word takes a digit, and its section there, not cut."""
    section = []
    for letter in word:
        x, after = steps[letter][x]
        section.append(after)
    return x, "".join(section)


def read_string(steps, word, string):
    """Return the image of a string by a word, and the section there, not cut."""
    written = []
    for digit in string:
        out, word = read_digit(steps, word, int(digit))
        written.append(DIGITS[out])
    return "".join(written), word


def cut_row(steps, word):
    """Return the list of the digits to which a word takes the digits, each with the cut section there."""
    row = []
    for x in range(len(steps["a"])):
        out, section = read_digit(steps, word, x)
        row.append((out, cut(section)))
    return row


class CutSections:
    """Reads cut words; their cut sections follow."""

    def __init__(self, machine):
        self.steps = steps_of(machine)

    def row(self, word):
        return cut_row(self.steps, word)


def image_of(machine, word, string):
    check_word(machine, word)
    check_string(machine[0], string)
    written, _ = read_string(steps_of(machine), word, string)
    return written


def section_of(machine, word, string):
    check_word(machine, word)
    check_string(machine[0], string)
    _, section = read_string(steps_of(machine), word, string)
    return section


def row_of_word(machine, word):
    check_word(machine, word)
    row = cut_row(steps_of(machine), word)
    return (tuple([out for out, _ in row]), tuple([section for _, section in row]))


def keeps(machine, word, string):
    return image_of(machine, word, string) == string


def keeps_length(machine, word, length):
    check_word(machine, word)
    if length not in range(LONGEST_KEPT + 1):
        raise BadNumber("the length is not one that is looked through")
    steps = steps_of(machine)
    level = [cut(word)]
    # A section that was met before is followed further from there than from here.
    seen = {cut(word): True}
    for _ in range(length):
        below = []
        for part in level:
            for x, (out, section) in enumerate(cut_row(steps, part)):
                if out != x:
                    return False
                if section not in seen:
                    seen[section] = True
                    below.append(section)
        level = below
    return True
