"""Checking what other parts tell. Whoever trusts this file need not trust the others: it takes the errors alone."""

from leafturner.errors import NotMachine, NotWord

DIGITS = "0123"
SMALL_LETTERS = "abcdefgh"
LARGE_LETTERS = "ABCDEFGH"
LEAST_DIGITS = 2
LONGEST_WORD = 60
LONGEST_STRING = 60
LONGEST_LISTED_WORD = 2000
GREATEST_ORDER = 200
MOST_STEPS = 2000
MOST_WORDS = 4000


def is_good_machine(machine):
    k, rows = machine
    if not LEAST_DIGITS <= k <= len(DIGITS) or not 1 <= len(rows) <= len(SMALL_LETTERS):
        return False
    return all(is_good_row(row, k, len(rows)) for row in rows)


def is_good_row(row, k, states):
    if sorted([out for out, _ in row]) != list(range(k)):
        return False
    return all(0 <= after < states for _, after in row)


def check(machine, words):
    """Raise an error if there is no machine, or if one of some words is none of it."""
    if not is_good_machine(machine):
        raise NotMachine("not a machine")
    letters = moves_of(machine)
    for word in words:
        if len(word) > LONGEST_WORD or not consists_of(word, letters):
            raise NotWord("not a word of the machine, or too long")


def consists_of(text, signs):
    return all(sign in signs for sign in text)


def moves_of(machine):
    """Return a dict that tells for each letter, and each digit, what is written and the letter that goes on."""
    moves = {}
    for small, large, row in zip(SMALL_LETTERS, LARGE_LETTERS, machine[1]):
        forwards = [None] * len(row)
        backwards = [None] * len(row)
        for x, (out, after) in enumerate(row):
            forwards[x] = (out, SMALL_LETTERS[after])
            backwards[out] = (x, LARGE_LETTERS[after])
        moves[small] = tuple(forwards)
        moves[large] = tuple(backwards)
    return moves


def cut(word):
    left = []
    for letter in word:
        if left and left[-1] == letter.swapcase():
            left.pop()
        else:
            left.append(letter)
    return "".join(left)


def undone(word):
    return word.swapcase()[::-1]


def step(moves, word, x):
    """Return the digit that a word writes for a digit, and the section there."""
    after = []
    for letter in word:
        x, follower = moves[letter][x]
        after.append(follower)
    return x, "".join(after)


def follow(moves, word, string):
    """Return the image of a string, and the section there."""
    image = []
    for digit in string:
        out, word = step(moves, word, DIGITS.index(digit))
        image.append(DIGITS[out])
    return "".join(image), word


def is_string(machine, string):
    return consists_of(string, list(DIGITS[:machine[0]]))


def is_accepted_list(machine, words):
    moves = moves_of(machine)
    listed = {word: True for word in words}
    return len(listed) == len(words) and all(may_be_listed(moves, word, listed) for word in words)


def may_be_listed(moves, word, listed):
    """Tell whether a word is cut, keeps each digit, and has its cut sections listed."""
    if len(word) > LONGEST_LISTED_WORD or not consists_of(word, moves) or cut(word) != word:
        return False
    for x in range(len(moves["a"])):
        out, section = step(moves, word, x)
        if out != x or cut(section) not in listed:
            return False
    return True


def is_closed_list(machine, words):
    check(machine, [])
    return is_accepted_list(machine, words)


def shows_equal(machine, one, other, words):
    check(machine, [one, other])
    return cut(one + undone(other)) in words and is_accepted_list(machine, words)


def shows_apart(machine, one, other, string):
    check(machine, [one, other])
    if not is_string(machine, string):
        return False
    moves = moves_of(machine)
    first, _ = follow(moves, one, string)
    second, _ = follow(moves, other, string)
    return first != second


def primes_of(n):
    """Return the primes that divide a number, in ascending order."""
    primes = []
    left = n
    for p in range(2, n + 1):
        if left % p == 0:
            primes.append(p)
        while left % p == 0:
            left = left // p
    return primes


def is_finite_order(machine, word, n, words, strings):
    check(machine, [word])
    if not 1 <= n <= GREATEST_ORDER or len(strings) != len(primes_of(n)):
        return False
    if cut(word * n) not in words or not is_accepted_list(machine, words):
        return False
    moves = moves_of(machine)
    for p, string in zip(primes_of(n), strings):
        if len(string) > LONGEST_STRING or not is_string(machine, string):
            return False
        if led_often(moves, word, string, n // p) == string:
            return False
    return True


def led_often(moves, word, string, times):
    for _ in range(times):
        string, _ = follow(moves, word, string)
    return string


def is_endless(machine, word, witness):
    check(machine, [word])
    moves = moves_of(machine)
    string, steps, exponent, other = witness
    if not is_string(machine, string) or not consists_of(other, moves):
        return False
    if not 1 <= steps <= MOST_STEPS or exponent % steps == 0:
        return False
    back = return_of(moves, word, string, steps)
    expected = conjugate_of(word, exponent, other)
    if back is None or expected is None:
        return False
    return is_shown_at_rest(moves, cut(back + undone(expected)))


def bounded(word):
    """Return a word, or None if it has too many letters."""
    return word if len(word) <= LONGEST_LISTED_WORD else None


def return_of(moves, word, string, steps):
    """Return the return of a string, or None if its round has not so many steps, or the return has too many letters."""
    at = string
    passed = []
    for step_number in range(1, steps + 1):
        at, section = follow(moves, word, at)
        passed.append(section)
        if (at == string) != (step_number == steps):
            return None
    return bounded(cut("".join(passed)))


def conjugate_of(word, exponent, other):
    """Return a word, copies of a second one, and the first one undone, cut; or None if there are too many letters."""
    core = cut(word) if exponent > 0 else cut(undone(word))
    arm = other
    while core and core[0] == core[-1].swapcase():
        arm = arm + core[0]
        core = core[1:-1]
    if core == "":
        return ""
    # Copies of the core do not cut each other, and nothing around them makes the whole shorter than they are.
    if len(core) * abs(exponent) > LONGEST_LISTED_WORD:
        return None
    return bounded(cut(arm + core * abs(exponent) + undone(arm)))


def is_shown_at_rest(moves, word):
    """Tell whether the closed list of a cut word is found within the bounds."""
    if len(word) > LONGEST_LISTED_WORD:
        return False
    found = {word: True}
    waiting = [word]
    while waiting:
        further = []
        for part in waiting:
            for x in range(len(moves["a"])):
                out, section = step(moves, part, x)
                if out != x:
                    return False
                section = cut(section)
                if section not in found:
                    found[section] = True
                    further.append(section)
            if len(found) > MOST_WORDS:
                return False
        waiting = further
    return True


def shown(machine, one, other, answer):
    check(machine, [one, other])
    if len(answer) == 2 and answer[0] == "equal" and isinstance(answer[1], list):
        if shows_equal(machine, one, other, answer[1]):
            return "equal"
    if len(answer) == 2 and answer[0] == "apart" and isinstance(answer[1], str):
        if shows_apart(machine, one, other, answer[1]):
            return "apart"
    return "none"


def order_shown(machine, word, answer):
    check(machine, [word])
    if len(answer) == 4 and answer[0] == "finite":
        _, n, words, strings = answer
        if is_finite_order(machine, word, n, words, strings):
            return "finite"
    if len(answer) == 2 and answer[0] == "endless" and is_endless(machine, word, answer[1]):
        return "endless"
    return "none"
