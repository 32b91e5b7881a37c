"""Orders of words, rounds of strings, and witnesses that show that a word is endless."""

from math import lcm

from leafturner.closed import first_difference, first_moved
from leafturner.errors import BadNumber, TooLarge
from leafturner.levels import cycles_of, followed, letter_turns, string_count, strings_of, turned
from leafturner.machines import DIGITS, check_string, has_digits
from leafturner.sections import read_string, steps_of
from leafturner.tidy import Tidy
from leafturner.words import check_word, cut, has_letters, undone

MOST_LETTERS = 2000
GREATEST_EXPONENT = 200
GREATEST_ORDER = 100
GREATEST_TOLD_ORDER = 64
MOST_STEPS = 2000
MOST_PROBED_STRINGS = 128
MOST_LONG_STRINGS = 4
MOST_LONG_DIGITS = 200


def check_letters(many):
    if many > MOST_LETTERS:
        raise TooLarge("a word has too many letters")


def copies(word, exponent):
    """Return the cut word of so many copies of a word of any length, or of the undone word."""
    whole = cut(word) if exponent > 0 else cut(undone(word))
    if exponent == 0 or whole == "":
        return ""
    # Only the ends of a copy and the next one cut each other, so no long word has to be made to know its length.
    arm = 0
    while whole[arm] == whole[-1 - arm].swapcase():
        arm += 1
    kept = whole[arm:len(whole) - arm]
    check_letters(2 * arm + len(kept) * abs(exponent))
    return whole[:arm] + kept * abs(exponent) + whole[len(whole) - arm:]


def power(machine, word, exponent):
    check_word(machine, word)
    if abs(exponent) > GREATEST_EXPONENT:
        raise BadNumber("the exponent is too far from 0")
    return copies(word, exponent)


def probe_turns(machine):
    """Return the level permutations of the letters on the greatest level with few strings."""
    level = 0
    while string_count(machine[0], level + 1) <= MOST_PROBED_STRINGS:
        level += 1
    return letter_turns(machine, level)


def order_up_to(machine, word, most):
    check_word(machine, word)
    if most not in range(1, GREATEST_ORDER + 1):
        raise BadNumber("not an order that is looked for")
    tidy = Tidy(machine)
    # Powers that do not even keep some long strings need not be gone through.
    turn = long_round(machine, word, most)
    for n in range(turn, most + 1, turn):
        if first_moved(tidy, copies(word, n)) is None:
            return n
    return None


def long_round(machine, word, most):
    """Return a number that divides the order of a word, if this is at most so great, or a greater number."""
    k = machine[0]
    many = 1
    for step in range(MOST_LONG_STRINGS):
        string = "".join([DIGITS[(at * at * step // 3 + step) % k] for at in range(MOST_LONG_DIGITS)])
        found = go_round(machine, word, string, most)
        if found is None:
            return most + 1
        many = lcm(many, found[0])
    return many


def go_round(machine, word, string, most):
    """Return the length of the round of a string and its return, or None if it has more than so many steps."""
    steps = steps_of(machine)
    at = string
    passed = []
    while len(passed) < most:
        at, section = read_string(steps, word, at)
        passed.append(section)
        if at == string:
            return len(passed), cut("".join(passed))
    return None


def round_of(machine, word, string):
    check_word(machine, word)
    check_string(machine[0], string)
    found = go_round(machine, word, string, MOST_STEPS)
    if found is None:
        raise TooLarge("the round has too many steps")
    check_letters(len(found[1]))
    return found


def turned_often(numbers, exponent):
    """Return a power of a permutation, whatever the exponent."""
    made = list(numbers)
    for cycle in cycles_of(numbers):
        for at, number in enumerate(cycle):
            made[number] = cycle[(at + exponent) % len(cycle)]
    return tuple(made)


def is_conjugate(machine, back, word, exponent, other):
    """Tell whether a word is equal to another one, followed by copies of a word, and the other one undone."""
    turns = probe_turns(machine)
    there = turned(turns, other)
    # Long words are needed only where a low level does not tell the two apart.
    if followed(turned(turns, back), there) != followed(there, turned_often(turned(turns, word), exponent)):
        return False
    resting = cut(other + copies(word, exponent) + undone(other) + undone(back))
    check_letters(len(resting))
    return first_moved(Tidy(machine), resting) is None


def is_witness(machine, word, witness):
    check_word(machine, word)
    string, steps, exponent, other = witness
    if not has_digits(machine[0], string) or not has_letters(machine, other):
        return False
    if steps < 1 or exponent % steps == 0:
        return False
    found = go_round(machine, word, string, min(steps, MOST_STEPS))
    if found is None and steps > MOST_STEPS:
        raise TooLarge("the round has too many steps")
    if found is None or found[0] != steps:
        return False
    return is_conjugate(machine, found[1], word, exponent, other)


def conjugates(word, turns):
    """Return for the exponents 1 and -1, and for each beginning of a word, these, the conjugate, and what it does."""
    found = []
    for exponent in (1, -1):
        for length in range(len(word) + 1):
            other = word[:length]
            conjugate = cut(other + copies(word, exponent) + undone(other))
            found.append((exponent, other, conjugate, turned(turns, conjugate)))
    return found


def are_shown_equal(tidy, one, other):
    """Tell whether two words are equal, if this can be told within the bounds."""
    try:
        return first_difference(tidy, one, other) is None
    except TooLarge:
        return False


def find_witness(machine, word):
    check_word(machine, word)
    tidy = Tidy(machine)
    turns = probe_turns(machine)
    targets = conjugates(word, turns)
    strings = strings_of(machine[0], 1) + strings_of(machine[0], 2)
    for string in strings:
        steps, back = go_round(machine, word, string, len(strings))
        # Each exponent is divided by 1.
        if steps > 1:
            numbers = turned(turns, back)
            for exponent, other, conjugate, target in targets:
                if numbers == target and are_shown_equal(tidy, back, conjugate):
                    return (string, steps, exponent, other)
    return None


def order(machine, word):
    try:
        many = order_up_to(machine, word, GREATEST_TOLD_ORDER)
    except TooLarge:
        # A witness shows that the word is endless, whatever its powers are.
        witness = find_witness(machine, word)
        if witness is None:
            raise
        return ("endless", witness)
    if many is not None:
        return ("finite", many)
    witness = find_witness(machine, word)
    if witness is not None:
        return ("endless", witness)
    return ("open", None)
