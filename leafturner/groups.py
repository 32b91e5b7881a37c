"""What some words do together on the strings of one length: orbits, and groups."""

from leafturner.errors import BadNumber, TooLarge
from leafturner.levels import check_level, followed, letter_turns, string_count, turned
from leafturner.machines import check_machine
from leafturner.words import check_word

MOST_MEMBERS = 5000


def check_words_on(machine, words, level):
    check_machine(machine)
    for word in words:
        check_word(machine, word)
    check_level(machine[0], level)


def turns_of(machine, words, level):
    """Return the list of the level permutations of some words."""
    turns = letter_turns(machine, level)
    return [turned(turns, word) for word in words]


def orbit_from(turns, start):
    """Return the numbers to which some permutations lead from a number."""
    seen = {start: True}
    found = [start]
    at = 0
    while at < len(found):
        for turn in turns:
            # Going on around a cycle leads back, so the undone words are not needed.
            after = turn[found[at]]
            if after not in seen:
                seen[after] = True
                found.append(after)
        at += 1
    return found


def orbits_of(turns, count):
    found = []
    seen = {}
    for start in range(count):
        if start not in seen:
            orbit = orbit_from(turns, start)
            for number in orbit:
                seen[number] = True
            found.append(sorted(orbit))
    return found


def orbits(machine, words, level):
    check_words_on(machine, words, level)
    return orbits_of(turns_of(machine, words, level), string_count(machine[0], level))


def first_split(machine, words, most):
    check_words_on(machine, words, most)
    for level in range(most + 1):
        if len(orbits(machine, words, level)) > 1:
            return level
    return None


def widened(group, turns):
    """Return a group, made wider by the last one of some permutations; the others make the group.

    The wider group consists of classes, each of which is the group followed by one permutation. Going on from
    the first member of a class leads to the first one of another class, or into a class that is there.
    """
    found = {member: True for member in group}
    firsts = [group[0]]
    at = 0
    while at < len(firsts):
        for turn in turns:
            first = followed(firsts[at], turn)
            if first in found:
                continue
            if len(found) + len(group) > MOST_MEMBERS:
                raise TooLarge("the group has too many members")
            firsts.append(first)
            for member in group:
                found[followed(member, first)] = True
        at += 1
    return list(found)


def group_of(turns, count):
    """Return the members of the group of some permutations, the rest first."""
    group = [tuple(range(count))]
    taken = []
    for turn in turns:
        if turn not in group:
            taken.append(turn)
            group = widened(group, taken)
    return group


def members(machine, words, level):
    check_words_on(machine, words, level)
    return sorted(group_of(turns_of(machine, words, level), string_count(machine[0], level)))


def size(machine, words, level):
    return len(members(machine, words, level))


def keepers(machine, words, level, number):
    check_words_on(machine, words, level)
    if number not in range(string_count(machine[0], level)):
        raise BadNumber("no such number on the level")
    return [member for member in members(machine, words, level) if member[number] == number]
