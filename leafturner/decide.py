"""Answers that show what they claim: of two words, whether they are equal, and of a word, its order."""

from leafturner.apart import first_string
from leafturner.closed import first_moved, is_closed, walk
from leafturner.errors import TooLarge
from leafturner.machines import LONGEST_STRING, has_digits
from leafturner.orders import copies, is_witness, order
from leafturner.sections import CutSections, read_string, steps_of
from leafturner.tidy import Tidy
from leafturner.words import check_word, cut, undone

MOST_COPIES = 200


def decide(machine, one, other):
    string = first_string(machine, one, other)
    if string is not None:
        return ("apart", string)
    words, _ = walk(CutSections(machine), cut(one + undone(other)))
    return ("equal", words)


def is_answer(machine, one, other, answer):
    check_word(machine, one)
    check_word(machine, other)
    kind, told = answer
    if kind == "equal":
        return is_closed(machine, told) and cut(one + undone(other)) in told
    if not has_digits(machine[0], told):
        return False
    steps = steps_of(machine)
    return image_often(steps, one, told, 1) != image_often(steps, other, told, 1)


def image_often(steps, word, string, times):
    """Return where a word leads from a string, so many times one after the other."""
    for _ in range(times):
        string, _ = read_string(steps, word, string)
    return string


def prime_divisors(n):
    """Return the prime divisors of a number in ascending order."""
    found = []
    p = 2
    while n > 1:
        if n % p == 0:
            found.append(p)
        while n % p == 0:
            n = n // p
        p += 1
    return found


def decide_order(machine, word):
    kind, told = order(machine, word)
    if kind == "finite":
        strings = [moved_string(machine, word, told // p) for p in prime_divisors(told)]
        words, _ = walk(CutSections(machine), copies(word, told))
        return ("finite", told, words, strings)
    if kind == "endless":
        return ("endless", told)
    return ("open",)


def moved_string(machine, word, exponent):
    """Return the first string that a power, which is not at rest, does not keep."""
    string = first_moved(Tidy(machine), copies(word, exponent))
    if len(string) > LONGEST_STRING:
        raise TooLarge("only strings with too many digits tell the order")
    return string


def is_order_answer(machine, word, answer):
    check_word(machine, word)
    if answer[0] == "finite":
        _, n, words, strings = answer
        return is_finite_answer(machine, word, n, words, strings)
    if answer[0] == "endless":
        return is_witness(machine, word, answer[1])
    return answer == ("open",)


def is_finite_answer(machine, word, n, words, strings):
    if n > MOST_COPIES:
        raise TooLarge("there would be too many copies of the word")
    # A closed list may have words of any length, so the copies are not bounded as a power is.
    if n < 1 or not is_closed(machine, words) or cut(word * n) not in words:
        return False
    primes = prime_divisors(n)
    if len(strings) != len(primes):
        return False
    steps = steps_of(machine)
    return all(is_moved(machine, steps, word, n // p, string) for p, string in zip(primes, strings))


def is_moved(machine, steps, word, times, string):
    if len(string) > LONGEST_STRING or not has_digits(machine[0], string):
        return False
    return image_often(steps, word, string, times) != string


def shows(answer):
    return answer[0]


def rest_level(machine, word):
    string = first_string(machine, word, "")
    if string is None:
        return None
    return len(string) - 1
