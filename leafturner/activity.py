"""How many sections of a word are active on each level, and how fast these numbers grow."""

from math import gcd

from leafturner.errors import BadNumber, TooLarge
from leafturner.machines import check_machine
from leafturner.wordmachine import resting_row, word_machine
from leafturner.words import SMALL_LETTERS, check_word

GREATEST_LEVEL = 200
MOST_ROWS_OF_SERIES = 40


def active_arrows(rows):
    """Return for each row of a word machine that is not resting the list of the next ones, one for each arrow."""
    resting = resting_row(rows)
    active = [number for number in range(len(rows)) if number != resting]
    places = {number: place for place, number in enumerate(active)}
    return [[places[after] for _, after in rows[number] if after != resting] for number in active]


def counted(arrows, level):
    """Return the numbers of the ways of 0, 1, .. up to so many steps from the row 0."""
    ways = [1] * len(arrows)
    found = []
    for _ in range(level + 1):
        found.append(ways[0] if ways else 0)
        ways = [sum([ways[after] for after in row]) for row in arrows]
    return found


def activities(machine, word, level):
    check_word(machine, word)
    if level not in range(GREATEST_LEVEL + 1):
        raise BadNumber("not a level that is looked at")
    _, rows = word_machine(machine, word)
    return counted(active_arrows(rows), level)


def activity(machine, word, level):
    return activities(machine, word, level)[-1]


def denominator_of(arrows):
    """Return the determinant of the matrix that has 1 for each row, and t less for each arrow.

    The coefficients come one after the other, each with the next one of a chain of matrices of integers
    (Faddeev and Leverrier), and each is an integer.
    """
    size = len(arrows)
    matrix = [[0] * size for _ in range(size)]
    found = [1]
    for place in range(1, size + 1):
        matrix = [[matrix[i][j] + (found[-1] if i == j else 0) for j in range(size)] for i in range(size)]
        matrix = [[sum([matrix[after][j] for after in row]) for j in range(size)] for row in arrows]
        found.append(-sum([matrix[i][i] for i in range(size)]) // place)
    return without_zeros(found)


def without_zeros(numbers):
    """Return a polynomial without the zeros at its end."""
    length = len(numbers)
    while length > 0 and numbers[length - 1] == 0:
        length -= 1
    return numbers[:length]


def multiplied(one, other, length):
    """Return the first coefficients of a product."""
    made = [0] * length
    for i, a in enumerate(one):
        for j, b in enumerate(other):
            if i + j < length:
                made[i + j] += a * b
    return without_zeros(made)


def remainder(one, other):
    """Return what is left of a multiple of a polynomial, by a number, without multiples of another polynomial."""
    left = one
    while len(left) >= len(other):
        shifted = [0] * (len(left) - len(other)) + other
        left = without_zeros([a * other[-1] - b * left[-1] for a, b in zip(left, shifted)])
    return left


def without_content(numbers):
    """Return a polynomial, divided by the greatest integer that divides its coefficients."""
    content = 0
    for number in numbers:
        content = gcd(content, number)
    return [number // content for number in numbers]


def common_divisor(one, other):
    """Return the greatest common divisor, whose coefficients have no common divisor."""
    while other:
        one, other = other, without_content(remainder(one, other))
    return without_content(one)


def divided(whole, divisor):
    """Return the quotient of a polynomial and one that divides it and begins with 1."""
    found = []
    for at in range(len(whole) - len(divisor) + 1):
        taken = sum([found[i] * divisor[at - i] for i in range(max(0, at + 1 - len(divisor)), at)])
        found.append(whole[at] - taken)
    return found


def series(machine, word):
    _, rows = word_machine(machine, word)
    if len(rows) > MOST_ROWS_OF_SERIES:
        raise TooLarge("the word machine has too many rows")
    arrows = active_arrows(rows)
    below = denominator_of(arrows)
    above = multiplied(below, counted(arrows, len(arrows)), len(arrows))
    # It divides a polynomial that begins with 1, so it begins with 1 or -1.
    divisor = common_divisor(below, above)
    divisor = [number * divisor[0] for number in divisor]
    return divided(above, divisor), divided(below, divisor)


def reach_of(arrows):
    """Return for each row a number whose bits tell the rows to which ways of one step or more lead."""
    reach = [0] * len(arrows)
    for row, after in enumerate(arrows):
        for number in after:
            reach[row] = reach[row] | 1 << number
    for middle in range(len(arrows)):
        for row in range(len(arrows)):
            if reach[row] >> middle & 1:
                reach[row] = reach[row] | reach[middle]
    return reach


def first_on_circles(arrows, reach):
    """Return for each circle the first row on it, or None if a row lies on two circles."""
    firsts = []
    seen = 0
    for row in range(len(arrows)):
        back = [after for after in arrows[row] if after == row or reach[after] >> row & 1]
        if len(back) > 1:
            return None
        if back and not seen >> row & 1:
            firsts.append(row)
            # What leads back to a row of a circle and is reached from it lies on this circle.
            for other in range(len(arrows)):
                if reach[row] >> other & 1 and reach[other] >> row & 1:
                    seen = seen | 1 << other
    return firsts


def most_circles(firsts, reach):
    """Return the greatest number of circles that a way meets, one of whose rows is told for each."""
    behind = {row: [other for other in firsts if other != row and reach[row] >> other & 1] for row in firsts}
    order = sorted(firsts, key=lambda first: len(behind[first]))
    most = {}
    # Fewer circles are reached from each circle that a circle leads to.
    for row in order:
        most[row] = 1 + max([most[other] for other in behind[row]], default=0)
    return max(list(most.values()), default=0)


def degree(machine, word):
    _, rows = word_machine(machine, word)
    arrows = active_arrows(rows)
    reach = reach_of(arrows)
    firsts = first_on_circles(arrows, reach)
    if firsts is None:
        return None
    return most_circles(firsts, reach) - 1


def machine_degree(machine):
    check_machine(machine)
    degrees = [degree(machine, letter) for letter in SMALL_LETTERS[:len(machine[1])]]
    if None in degrees:
        return None
    return max(degrees)


def is_bounded(machine, word):
    found = degree(machine, word)
    return found is not None and found <= 0
