"""Machines for the tests, and what the document says, written out once more in the plainest way."""

import itertools
import random

FIRST = (2, (((1, 1), (0, 0)), ((0, 1), (1, 1))))
FOUR_STATES = (2, (((1, 4), (0, 4)), ((0, 0), (1, 2)), ((0, 0), (1, 3)), ((0, 4), (1, 1)), ((0, 4), (1, 4))))
FREE = (2, (((1, 1), (0, 2)), ((1, 2), (0, 1)), ((0, 0), (1, 0))))
LAMPS = (2, (((1, 0), (0, 1)), ((0, 0), (1, 1))))
THREE_DIGITS = (3, (((1, 1), (2, 0), (0, 2)), ((0, 2), (2, 1), (1, 0)), ((0, 2), (1, 2), (2, 2))))
FOUR_DIGITS = (4, (((1, 0), (0, 1), (3, 1), (2, 2)), ((0, 2), (2, 0), (1, 1), (3, 1)),
                   ((0, 2), (1, 2), (2, 2), (3, 2))))
GREAT = 10 ** 5000

MACHINES = (FIRST, FOUR_STATES, FREE, LAMPS, THREE_DIGITS, FOUR_DIGITS)


def cycle(k, states):
    """A wide machine that goes round its states; only the state 0 changes digits, adding 1 to them."""
    rows = []
    for state in range(states):
        shift = 1 if state == 0 else 0
        rows.append(tuple([((x + shift) % k, (state + 1) % states) for x in range(k)]))
    return (k, tuple(rows))


def some_machine(rng, k, states):
    rows = []
    for _ in range(states):
        outs = list(range(k))
        rng.shuffle(outs)
        rows.append(tuple([(out, rng.randrange(states)) for out in outs]))
    return (k, tuple(rows))


def some_machines(seed, count, most_states):
    rng = random.Random(seed)
    return [some_machine(rng, rng.choice((2, 3, 4)), rng.randint(1, most_states)) for _ in range(count)]


def some_word(rng, machine, most):
    letters = letters_of(machine)
    return "".join([rng.choice(letters) for _ in range(rng.randint(0, most))])


def some_string(rng, k, most):
    return "".join([rng.choice("0123"[:k]) for _ in range(rng.randint(0, most))])


def strings_of_length(k, length):
    return ["".join(digits) for digits in itertools.product("0123"[:k], repeat=length)]


def strings_up_to(k, length):
    return [string for n in range(length + 1) for string in strings_of_length(k, n)]


def letters_of(machine):
    return "aAbBcCdDeEfFgGhH"[:2 * len(machine[1])]


def words_up_to(machine, length):
    """All words in their order."""
    letters = letters_of(machine)
    return ["".join(word) for n in range(length + 1) for word in itertools.product(letters, repeat=n)]


def image_by_state(machine, state, string):
    if string == "":
        return ""
    out, after = machine[1][state][int(string[0])]
    return str(out) + image_by_state(machine, after, string[1:])


def image_by_letter(machine, letter, string):
    """A large letter leads back: digit by digit the one is looked for that the state takes to the given one."""
    state = "abcdefgh".index(letter.lower())
    if letter.islower():
        return image_by_state(machine, state, string)
    before = ""
    for digit in string:
        for x, (out, after) in enumerate(machine[1][state]):
            if str(out) == digit:
                before += str(x)
                then = after
        state = then
    return before


def image_by_word(machine, word, string):
    for letter in word:
        string = image_by_letter(machine, letter, string)
    return string


def cut_slowly(word):
    pairs = [a + b for small in "abcdefgh" for a, b in ((small, small.upper()), (small.upper(), small))]
    while True:
        found = [pair for pair in pairs if pair in word]
        if not found:
            return word
        word = word.replace(found[-1], "", 1)


def undone_slowly(word):
    result = ""
    for letter in word:
        result = (letter.upper() if letter.islower() else letter.lower()) + result
    return result


def order_key(word):
    return (len(word), ["aAbBcCdDeEfFgGhH".index(letter) for letter in word])


def letter_steps(machine, letter, x):
    """The digit that a letter writes for a digit, and the letter that stands in the section."""
    row = machine[1]["abcdefgh".index(letter.lower())]
    if letter.islower():
        out, after = row[x]
        return out, "abcdefgh"[after]
    for y, (out, after) in enumerate(row):
        if out == x:
            return y, "ABCDEFGH"[after]


def section_slowly(machine, word, string):
    for digit in string:
        x = int(digit)
        section = ""
        for letter in word:
            x, after = letter_steps(machine, letter, x)
            section += after
        word = section
    return word


def closed_slowly(machine, word):
    """All cut sections in the order of the closed list, and whether all of them keep each digit."""
    found = [cut_slowly(word)]
    rests = True
    for part in found:
        for x in range(machine[0]):
            rests = rests and image_by_word(machine, part, str(x)) == str(x)
            section = cut_slowly(section_slowly(machine, part, str(x)))
            if section not in found:
                found.append(section)
    return found, rests


def identity_machine(maps):
    """A machine whose states all write what they read, going on at the digit x as the map x tells."""
    return (len(maps), tuple([tuple([(x, f[state]) for x, f in enumerate(maps)]) for state in range(len(maps[0]))]))


# Words at rest with exactly 4000 and 4001 different cut sections.
AT_LIMIT = (identity_machine(((3, 7, 7, 1, 6, 0, 2, 4), (6, 2, 5, 1, 7, 5, 4, 3))), "cehdb")
OVER_LIMIT = (identity_machine(((4, 3, 5, 4, 0, 7, 6, 1), (5, 4, 7, 1, 6, 3, 0, 0))), "bhgfe")


def level_words(machine, level, length):
    """The first words, in their order, with each permutation of a level that words up to a length have."""
    k = machine[0]
    strings = strings_of_length(k, level)
    turns = {letter: {u: image_by_letter(machine, letter, u) for u in strings} for letter in letters_of(machine)}
    found = {tuple(strings): ""}
    ring = [(tuple(strings), "")]
    for _ in range(length):
        made = []
        for images, word in ring:
            for letter in letters_of(machine):
                further = tuple([turns[letter][u] for u in images])
                if further not in found:
                    found[further] = word + letter
                    made.append((further, word + letter))
        ring = made
    return list(found.values())
