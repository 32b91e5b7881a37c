"""Going on from one thing to the next ones until all that are reached are found."""

from leafturner.errors import TooLarge


def explored(reader, starts, most):
    """Return the things that are reached from some different ones, and their rows.

    The reader has a method `row` that tells for a thing what is written for each digit, and the thing in which
    it goes on. The things stand in the order in which they are found, and the rows tell them by their numbers.
    """
    numbers = {start: number for number, start in enumerate(starts)}
    found = list(starts)
    rows = []
    while len(rows) < len(found):
        row = reader.row(found[len(rows)])
        for _, after in row:
            if after not in numbers:
                numbers[after] = len(found)
                found.append(after)
        if len(found) > most:
            raise TooLarge("there are too many things to go through")
        rows.append(tuple([(out, numbers[after]) for out, after in row]))
    return found, rows
