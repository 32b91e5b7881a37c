"""States that are alike, and the least machine of a state."""

from leafturner.machines import DIGITS, check_state, check_two_states, check_wide


def reached(machine, state):
    check_wide(machine)
    check_state(machine, state)
    found = [state]
    seen = {state: True}
    at = 0
    while at < len(found):
        row = machine[1][found[at]]
        for _, after in row:
            if after not in seen:
                seen[after] = True
                found.append(after)
        at += 1
    return found


def trimmed(machine, state):
    found = reached(machine, state)
    numbers = {old: number for number, old in enumerate(found)}
    k, rows = machine
    return (k, tuple([renumbered(rows[old], numbers) for old in found]))


def renumbered(row, numbers):
    return tuple([(out, numbers[after]) for out, after in row])


def least(machine, state):
    small = trimmed(machine, state)
    return trimmed(merged(small), 0)


def merged(machine):
    """Return the machine whose states are the classes of states that are alike, that of the state 0 first."""
    k, rows = machine
    return (k, tuple(class_rows(rows, alike_numbers(rows))))


def class_rows(rows, numbers):
    """Return the list of the rows of the classes of states, whose numbers are told for each state."""
    made = {}
    for row, number in zip(rows, numbers):
        if number not in made:
            made[number] = renumbered(row, numbers)
    return [made[number] for number in range(len(made))]


def alike_numbers(rows):
    """Return the list of the numbers of the classes of the states, counted in the order of the states."""
    numbers = [0] * len(rows)
    count = 0
    # Classes are only ever split, so one round that splits none is the last one.
    while count < max(numbers) + 1:
        count = max(numbers) + 1
        numbers = split_once(rows, numbers)
    return numbers


def split_once(rows, numbers):
    found = {}
    result = []
    for row, number in zip(rows, numbers):
        key = (number, renumbered(row, numbers))
        if key not in found:
            found[key] = len(found)
        result.append(found[key])
    return result


def are_alike(one, s, other, t):
    return first_apart(one, s, other, t) is None


def first_apart(one, s, other, t):
    check_two_states(one, s, other, t)
    came = {(s, t): None}
    pairs = [(s, t)]
    at = 0
    while at < len(pairs):
        p, q = pairs[at]
        for x, (left, right) in enumerate(zip(one[1][p], other[1][q])):
            if left[0] != right[0]:
                return string_to(came, (p, q)) + DIGITS[x]
            pair = (left[1], right[1])
            if pair not in came:
                came[pair] = ((p, q), DIGITS[x])
                pairs.append(pair)
        at += 1
    return None


def string_to(came, pair):
    """Return the first string that leads to a pair; strings kept with every pair would be too long together."""
    digits = []
    while came[pair] is not None:
        pair, digit = came[pair]
        digits.append(digit)
    return "".join(digits[::-1])
