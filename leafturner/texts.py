"""Texts of wide machines."""

from leafturner.errors import Malformed
from leafturner.machines import DIGITS, check_wide, has_digits

COUNTS = ("2", "3", "4")
MARK = "/"
LONGEST_NUMBER = 3


def text_of(machine):
    check_wide(machine)
    k, rows = machine
    words = [str(k)]
    for row in rows:
        words.append(MARK)
        words.extend([f"{out}:{after}" for out, after in row])
    return " ".join(words)


def read_machine(text):
    words = text.split(" ")
    if words[0] not in COUNTS:
        raise Malformed(0)
    k = int(words[0])
    rows = []
    at = 1
    # A wide machine has a state, so a text that ends behind its first word ends too early.
    while at < len(words) or not rows:
        rows.append(read_row(words, at, k))
        at += k + 1
    machine = (k, tuple(rows))
    check_wide(machine)
    return machine


def read_row(words, at, k):
    """Return the row whose mark is due at an index."""
    if words[at:at + 1] != [MARK]:
        raise Malformed(at)
    row = []
    for place in range(at + 1, at + 1 + k):
        if place == len(words) or not is_entry(words[place], k):
            raise Malformed(place)
        out, _, after = words[place].partition(":")
        row.append((int(out), int(after)))
    return tuple(row)


def is_entry(word, k):
    out, _, after = word.partition(":")
    return len(out) == 1 and has_digits(k, out) and is_number(after)


def is_number(word):
    if not 1 <= len(word) <= LONGEST_NUMBER or not has_digits(len(DIGITS), word):
        return False
    return word == "0" or word[0] != "0"
