"""Wide machines: their form, what their states do to strings, and machines that are made of others."""

from leafturner.errors import BadNumber, NotMachine, NotString
from leafturner.explore import explored

DIGITS = "0123456789"
LEAST_DIGITS = 2
MOST_DIGITS = 4
MOST_WIDE_STATES = 200
MOST_STATES = 8
LONGEST_STRING = 60


def is_wide(machine):
    k, rows = machine
    if not LEAST_DIGITS <= k <= MOST_DIGITS or not 1 <= len(rows) <= MOST_WIDE_STATES:
        return False
    return all(is_row(row, k, len(rows)) for row in rows)


def is_row(row, k, states):
    written = sorted([out for out, _ in row])
    return written == list(range(k)) and all(after in range(states) for _, after in row)


def is_machine(machine):
    return is_wide(machine) and len(machine[1]) <= MOST_STATES


def check_count(k):
    if k not in range(LEAST_DIGITS, MOST_DIGITS + 1):
        raise BadNumber("there are from 2 to 4 digits")


def check_wide(machine):
    if not is_wide(machine):
        raise NotMachine("not a wide machine")


def check_machine(machine):
    if not is_machine(machine):
        raise NotMachine("not a machine")


def check_state(machine, state):
    if state not in range(len(machine[1])):
        raise BadNumber("no such state")


def check_two_states(one, s, other, t):
    check_wide(one)
    check_wide(other)
    check_state(one, s)
    check_state(other, t)
    if one[0] != other[0]:
        raise BadNumber("the machines have different numbers of digits")


def has_digits(k, string):
    return all(DIGITS.find(digit) in range(k) for digit in string)


def check_string(k, string):
    if len(string) > LONGEST_STRING or not has_digits(k, string):
        raise NotString("not a string of the digits, or too long")


def is_string(machine, string):
    check_wide(machine)
    return len(string) <= LONGEST_STRING and has_digits(machine[0], string)


def read(machine, state, string):
    """Return the image of a string by a state, and the state to which the string leads."""
    written = []
    for digit in string:
        out, state = machine[1][state][int(digit)]
        written.append(DIGITS[out])
    return "".join(written), state


def check_reading(machine, state, string):
    check_wide(machine)
    check_state(machine, state)
    check_string(machine[0], string)


def image(machine, state, string):
    check_reading(machine, state, string)
    written, _ = read(machine, state, string)
    return written


def state_behind(machine, state, string):
    check_reading(machine, state, string)
    _, last = read(machine, state, string)
    return last


def arranged(things, places):
    """Return the tuple in which each thing stands at its place."""
    made = [None] * len(things)
    for thing, place in zip(things, places):
        made[place] = thing
    return tuple(made)


def undoing(machine):
    check_wide(machine)
    k, rows = machine
    return (k, tuple([undone_row(row) for row in rows]))


def undone_row(row):
    entries = [(x, after) for x, (_, after) in enumerate(row)]
    return arranged(entries, [out for out, _ in row])


def behind(one, s, other, t):
    check_two_states(one, s, other, t)
    _, rows = explored(Pairs(one[1], other[1]), [(s, t)], MOST_WIDE_STATES)
    return (one[0], tuple(rows))


class Pairs:
    """Reads pairs of rows, one behind the other."""

    def __init__(self, first, second):
        self.first = first
        self.second = second

    def row(self, pair):
        s, t = pair
        return row_behind(self.first[s], self.second[t])


def row_behind(first, second):
    """Return what two states, one behind the other, write for each digit, and the pair of their next states."""
    row = []
    for middle, after in first:
        out, then = second[middle]
        row.append((out, (after, then)))
    return row


def check_arrangement(numbers, count):
    if sorted(numbers) != list(range(count)):
        raise BadNumber("not an arrangement")


def with_digits(machine, p):
    check_wide(machine)
    k, rows = machine
    check_arrangement(p, k)
    return (k, tuple([arranged([(p[out], after) for out, after in row], p) for row in rows]))


def with_states(machine, q):
    check_wide(machine)
    k, rows = machine
    check_arrangement(q, len(rows))
    renamed = [tuple([(out, q[after]) for out, after in row]) for row in rows]
    return (k, arranged(renamed, q))
