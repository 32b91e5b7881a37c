"""Portraits: what a word does on short strings, told by an arrangement of the digits for each beginning."""

from math import factorial

from leafturner.errors import BadNumber, NoAnswer, NotPortrait, NotString
from leafturner.graphs import number_of
from leafturner.levels import followed, string_count
from leafturner.machines import DIGITS, arranged, check_count, has_digits
from leafturner.sections import cut_row, steps_of
from leafturner.words import check_word

GREATEST_DEPTH = 6
MOST_ARRANGEMENTS = 400


def arrangement_count(k, depth):
    """Return the number of the arrangements of a portrait of a depth."""
    return sum([string_count(k, level) for level in range(depth)])


def is_depth(k, depth):
    # The depth is looked at first, so that no power of a great number is needed.
    return depth in range(GREATEST_DEPTH + 1) and arrangement_count(k, depth) <= MOST_ARRANGEMENTS


def check_depth(k, depth):
    check_count(k)
    if not is_depth(k, depth):
        raise BadNumber("not a depth of a portrait")


def is_portrait(k, portrait):
    check_count(k)
    if not is_depth(k, len(portrait)):
        return False
    return all(is_level(k, level, string_count(k, at)) for at, level in enumerate(portrait))


def is_level(k, level, count_there):
    digits = list(range(k))
    return len(level) == count_there and all(sorted(arrangement) == digits for arrangement in level)


def check_portrait(k, portrait):
    if not is_portrait(k, portrait):
        raise NotPortrait("not a portrait")


def check_place(k, portrait, string):
    check_portrait(k, portrait)
    if len(string) > len(portrait) or not has_digits(k, string):
        raise NotString("not a string of the digits, or longer than the portrait is deep")


def portrait_of(machine, word, depth):
    check_word(machine, word)
    check_depth(machine[0], depth)
    steps = steps_of(machine)
    sections = [word]
    levels = []
    for _ in range(depth):
        rows = [cut_row(steps, section) for section in sections]
        levels.append(tuple([arrangement_of(row) for row in rows]))
        sections = [section for row in rows for out, section in row]
    return tuple(levels)


def arrangement_of(row):
    return tuple([out for out, _ in row])


def rest(k, depth):
    check_depth(k, depth)
    nothing = tuple(range(k))
    return tuple([(nothing,) * string_count(k, level) for level in range(depth)])


def acted(k, portrait, string):
    check_place(k, portrait, string)
    written = []
    number = 0
    for level, digit in zip(portrait, string):
        written.append(DIGITS[level[number][int(digit)]])
        number = number * k + int(digit)
    return "".join(written)


def turns_on_levels(k, portrait):
    """Return the rearrangements of the levels from 0 to the depth."""
    turns = [(0,)]
    for level in portrait:
        turn = turns[-1]
        turns.append(tuple([turn[u] * k + out for u, arrangement in enumerate(level) for out in arrangement]))
    return turns


def product(k, one, other):
    check_portrait(k, one)
    check_portrait(k, other)
    if len(one) != len(other):
        raise BadNumber("the portraits have different depths")
    levels = []
    for turn, first, second in zip(turns_on_levels(k, one), one, other):
        levels.append(tuple([followed(arrangement, second[v]) for v, arrangement in zip(turn, first)]))
    return tuple(levels)


def inverse(k, portrait):
    check_portrait(k, portrait)
    digits = list(range(k))
    levels = []
    for turn, level in zip(turns_on_levels(k, portrait), portrait):
        levels.append(arranged([arranged(digits, arrangement) for arrangement in level], turn))
    return tuple(levels)


def section(k, portrait, string):
    check_place(k, portrait, string)
    start = number_of(k, string)
    levels = []
    many = 1
    for level in portrait[len(string):]:
        levels.append(level[start * many:(start + 1) * many])
        many *= k
    return tuple(levels)


def level_of(k, portrait):
    check_portrait(k, portrait)
    return turns_on_levels(k, portrait)[-1]


def from_level(k, n, numbers):
    check_depth(k, n)
    if sorted(numbers) != list(range(string_count(k, n))):
        raise NotPortrait("not a rearrangement of the level")
    levels = []
    for _ in range(n):
        rows = [numbers[at:at + k] for at in range(0, len(numbers), k)]
        levels.append(tuple([tuple([number % k for number in row]) for row in rows]))
        numbers = tuple([beginning_of(row, k) for row in rows])
    return tuple(levels[::-1])


def beginning_of(row, k):
    """Return the number of the beginning that all strings with some numbers share."""
    beginning = row[0] // k
    if not all(number // k == beginning for number in row):
        raise NoAnswer("the rearrangement parts strings with the same beginning")
    return beginning


def sign(arrangement):
    turned = sum([1 for y in range(len(arrangement)) for x in range(y) if arrangement[x] > arrangement[y]])
    return 1 if turned % 2 == 0 else -1


def signs(k, portrait):
    check_portrait(k, portrait)
    found = []
    for level in portrait:
        whole = 1
        for arrangement in level:
            whole *= sign(arrangement)
        found.append(whole)
    return found


def count(k, depth):
    check_depth(k, depth)
    many = 1
    for _ in range(arrangement_count(k, depth)):
        many *= factorial(k)
    return many


def arrangements_of(k):
    """Return all arrangements of the digits in ascending order."""
    found = [()]
    for _ in range(k):
        found = [made + (x,) for made in found for x in range(k) if x not in made]
    return found


def portrait_at(k, depth, number):
    if number not in range(count(k, depth)):
        raise BadNumber("no portrait has this number")
    choices = arrangements_of(k)
    levels = []
    for level in range(depth - 1, -1, -1):
        # The number is written in base k!, so the last arrangement is told by what is left over first.
        arrangements = []
        for _ in range(string_count(k, level)):
            number, at = divmod(number, len(choices))
            arrangements.append(choices[at])
        levels.append(tuple(arrangements[::-1]))
    return tuple(levels[::-1])


def number_of_portrait(k, portrait):
    check_portrait(k, portrait)
    choices = arrangements_of(k)
    number = 0
    for level in portrait:
        for arrangement in level:
            number = number * len(choices) + choices.index(arrangement)
    return number
