"""What words do on the strings of one length: level permutations, cycles, and round words."""

from leafturner.errors import BadNumber, NoAnswer
from leafturner.machines import DIGITS, check_count
from leafturner.sections import steps_of
from leafturner.words import check_word

MOST_STRINGS = 4096
GREATEST_LEVEL = 12


def string_count(k, level):
    """Return the number of the strings of a level."""
    count = 1
    for _ in range(level):
        count *= k
    return count


def check_level(k, level):
    # The greatest level is looked at first, so that no power of a great number is needed.
    if level not in range(GREATEST_LEVEL + 1) or string_count(k, level) > MOST_STRINGS:
        raise BadNumber("the level may not be told")


def check_level_of(machine, word, level):
    check_word(machine, word)
    check_level(machine[0], level)


def strings_of(k, level):
    check_count(k)
    check_level(k, level)
    strings = [""]
    for _ in range(level):
        strings = [string + digit for string in strings for digit in DIGITS[:k]]
    return strings


def letter_turns(machine, level):
    """Return a dict that has the level permutation of each letter."""
    steps = steps_of(machine)
    turns = {letter: (0,) for letter in steps}
    count = 1
    for _ in range(level):
        further = {}
        for letter, row in steps.items():
            further[letter] = tuple([out * count + y for out, after in row for y in turns[after]])
        turns = further
        count *= machine[0]
    return turns


def turned(turns, word):
    """Return the level permutation of a word, made of those of the letters."""
    numbers = tuple(range(len(turns["a"])))
    for letter in word:
        numbers = followed(numbers, turns[letter])
    return numbers


def followed(one, other):
    """Return one permutation, followed by another one."""
    return tuple([other[x] for x in one])


def level_permutation(machine, word, level):
    check_level_of(machine, word, level)
    return turned(letter_turns(machine, level), word)


def cycles_of(numbers):
    """Return the cycles of a permutation, each from its least number on, in the order of these."""
    found = []
    seen = {}
    for start in range(len(numbers)):
        if start in seen:
            continue
        cycle = [start]
        at = numbers[start]
        while at != start:
            cycle.append(at)
            at = numbers[at]
        for number in cycle:
            seen[number] = True
        found.append(cycle)
    return found


def cycles(machine, word, level):
    return cycles_of(level_permutation(machine, word, level))


def is_round(machine, word, level):
    return len(cycles(machine, word, level)) == 1


def odd_levels(machine, word, level):
    check_level_of(machine, word, level)
    if machine[0] != 2:
        raise NoAnswer("only words over two digits are odd or not")
    steps = steps_of(machine)
    parities = {letter: row[0][0] for letter, row in steps.items()}
    found = []
    for n in range(level):
        if sum([parities[letter] for letter in word]) % 2 == 1:
            found.append(n)
        parities = {letter: sum([parities[after] for _, after in row]) % 2 for letter, row in steps.items()}
    return found
