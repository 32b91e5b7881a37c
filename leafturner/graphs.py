"""Graphs of levels: where some words lead on the strings of one length."""

from leafturner.errors import BadNumber, NotGraph, TooLarge
from leafturner.groups import orbit_from, orbits_of, turns_of
from leafturner.levels import string_count
from leafturner.machines import DIGITS, arranged, check_count, check_machine, check_string
from leafturner.words import check_word

MOST_ROWS = 6
MOST_NUMBERS = 1024
GREATEST_LEVEL = 10
MOST_STARTS = 100


def is_graph(graph):
    if not 1 <= len(graph) <= MOST_ROWS or not 1 <= len(graph[0]) <= MOST_NUMBERS:
        return False
    numbers = list(range(len(graph[0])))
    return all(sorted(row) == numbers for row in graph)


def check_graph(graph):
    if not is_graph(graph):
        raise NotGraph("not a graph")


def check_number_in(graph, number):
    if number not in range(len(graph[0])):
        raise BadNumber("no such number in the graph")


def level_graph(machine, words, n):
    check_machine(machine)
    for word in words:
        check_word(machine, word)
    if not 1 <= len(words) <= MOST_ROWS or n < 0:
        raise BadNumber("not a number of rows, or not a level")
    # The level is looked at first, so that no power of a great number is needed.
    if n > GREATEST_LEVEL or string_count(machine[0], n) > MOST_NUMBERS:
        raise TooLarge("the level has too many strings")
    return tuple(turns_of(machine, words, n))


def number_of(k, string):
    check_count(k)
    check_string(k, string)
    number = 0
    for digit in string:
        number = number * k + int(digit)
    return number


def string_at(k, n, number):
    check_count(k)
    if n not in range(GREATEST_LEVEL + 1) or number not in range(string_count(k, n)):
        raise BadNumber("not a level that is told, or no such number on it")
    digits = []
    for _ in range(n):
        number, x = divmod(number, k)
        digits.append(DIGITS[x])
    return "".join(digits[::-1])


def ways_of(graph):
    """Return where the steps lead from each number: by each row forwards, and then backwards."""
    numbers = list(range(len(graph[0])))
    return [way for row in graph for way in (row, arranged(numbers, row))]


def distance(graph, one, other):
    check_graph(graph)
    check_number_in(graph, one)
    check_number_in(graph, other)
    for steps, layer in enumerate(layers_from(graph, one)):
        if other in layer:
            return steps
    return None


def parts(graph):
    check_graph(graph)
    return orbits_of(graph, len(graph[0]))


def layers(graph, number):
    check_graph(graph)
    check_number_in(graph, number)
    return layers_from(graph, number)


def layers_from(graph, number):
    ways = ways_of(graph)
    seen = {number: True}
    found = []
    layer = [number]
    while layer:
        found.append(layer)
        further = []
        for at in layer:
            for way in ways:
                if way[at] not in seen:
                    seen[way[at]] = True
                    further.append(way[at])
        layer = sorted(further)
    return found


def standard_from(graph, ways, number):
    order = orbit_from(ways, number)
    renamed = {old: new for new, old in enumerate(order)}
    return tuple([tuple([renamed[row[old]] for old in order]) for row in graph])


def standard(graph, number):
    check_graph(graph)
    check_number_in(graph, number)
    return standard_from(graph, ways_of(graph), number)


def least_form(graph, number):
    check_graph(graph)
    check_number_in(graph, number)
    ways = ways_of(graph)
    part = orbit_from(ways, number)
    if len(part) > MOST_STARTS:
        raise TooLarge("the part has too many numbers")
    return min([standard_from(graph, ways, start) for start in part])


def over(upper, lower, k):
    check_graph(upper)
    check_graph(lower)
    check_count(k)
    if len(upper) != len(lower) or len(upper[0]) != k * len(lower[0]):
        return False
    return all(is_row_over(above, below, k) for above, below in zip(upper, lower))


def is_row_over(above, below, k):
    return all(after // k == below[x // k] for x, after in enumerate(above))
