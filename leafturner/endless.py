"""Endless strings: digits that begin, and digits that come again and again; what words do to them."""

from leafturner.errors import BadNumber, NotEndless, TooLarge
from leafturner.machines import DIGITS, LONGEST_STRING, check_count, has_digits
from leafturner.sections import read_digit, steps_of
from leafturner.words import check_word

LONGEST_BEGINNING = 2000
MOST_SECTIONS_MET = 2000
LONGEST_PART = 20000
MOST_STEPS = 100


def check_endless(k, endless):
    check_count(k)
    begin, again = endless
    if again == "" or max(len(begin), len(again)) > LONGEST_STRING or not has_digits(k, begin + again):
        raise NotEndless("not a pair of strings of the digits, or too long, or nothing comes again")


def check_both(k, one, other):
    check_endless(k, one)
    check_endless(k, other)


def short_form(k, endless):
    check_endless(k, endless)
    return shortened(endless)


def turned_on(string, places):
    """Return a string that is turned, so that another one of its digits comes first."""
    places = places % len(string)
    return string[places:] + string[:places]


def shortened(endless):
    """Return the short form of an endless string with parts of any length."""
    begin, again = endless
    # A string comes again within two copies of it behind as many digits as the part has that it repeats.
    again = again[:(again + again).find(again, 1)]
    kept = len(begin)
    while kept > 0 and begin[kept - 1] == again[(kept - 1 - len(begin)) % len(again)]:
        kept -= 1
    return (begin[:kept], turned_on(again, kept - len(begin)))


def first_digits(endless, length):
    begin, again = endless
    return (begin + again * (length // len(again) + 1))[:length]


def beginning(k, endless, length):
    check_endless(k, endless)
    if length not in range(LONGEST_BEGINNING + 1):
        raise BadNumber("not a number of digits that are told")
    return first_digits(endless, length)


def first_difference(k, one, other):
    check_both(k, one, other)
    # Two endless strings that agree on so many digits are the same.
    many = max(len(one[0]), len(other[0])) + len(one[1]) + len(other[1])
    for at, (x, y) in enumerate(zip(first_digits(one, many), first_digits(other, many))):
        if x != y:
            return at
    return None


def are_tail_alike(k, one, other):
    check_both(k, one, other)
    _, first = shortened(one)
    _, second = shortened(other)
    return len(first) == len(second) and second in first + first


def coming_behind(endless, place):
    """Return the shortest digits that come again and again from a place on, which is behind the begin."""
    begin, again = shortened(endless)
    return turned_on(again, place - len(begin))


def are_level_alike(k, one, other):
    check_both(k, one, other)
    place = max(len(one[0]), len(other[0]))
    return coming_behind(one, place) == coming_behind(other, place)


def read_known(steps, known, word, string):
    """Return the image of a string by a word, and the section there; what was read once is known."""
    written = []
    for digit in string:
        if (word, digit) not in known:
            known[(word, digit)] = read_digit(steps, word, int(digit))
        out, word = known[(word, digit)]
        written.append(DIGITS[out])
    return "".join(written), word


def image_by(steps, word, endless):
    """Return the short form of the image of an endless string with parts of any length."""
    begin, again = endless
    known = {}
    first, section = read_known(steps, known, word, begin)
    met = {}
    images = []
    while section not in met:
        # Beyond twice the bound, the begin or the again of the image is too long, wherever a section comes again.
        if len(met) == MOST_SECTIONS_MET or len(begin) + len(met) * len(again) > 2 * LONGEST_PART:
            raise TooLarge("the sections do not come again soon enough")
        met[section] = len(images)
        written, section = read_known(steps, known, section, again)
        images.append(written)
    begin = first + "".join(images[:met[section]])
    again = "".join(images[met[section]:])
    if max(len(begin), len(again)) > LONGEST_PART:
        raise TooLarge("the image has too many digits")
    return shortened((begin, again))


def check_acting(machine, word, endless):
    check_word(machine, word)
    check_endless(machine[0], endless)


def image(machine, word, endless):
    check_acting(machine, word, endless)
    return image_by(steps_of(machine), word, endless)


def keeps(machine, word, endless):
    return image(machine, word, endless) == shortened(endless)


def way(machine, word, endless, steps):
    check_acting(machine, word, endless)
    if steps not in range(MOST_STEPS + 1):
        raise BadNumber("not a number of steps that are gone")
    letters = steps_of(machine)
    members = [shortened(endless)]
    for _ in range(steps):
        endless = image_by(letters, word, endless)
        members.append(endless)
    return members


def round_of(machine, word, endless, most):
    check_acting(machine, word, endless)
    if most not in range(1, MOST_STEPS + 1):
        raise BadNumber("not a round that is looked for")
    letters = steps_of(machine)
    start = shortened(endless)
    for step in range(1, most + 1):
        endless = image_by(letters, word, endless)
        if endless == start:
            return step
    return None
