"""A desk that has machines by names and answers lines of text about them."""

from leafturner.activity import activity, degree
from leafturner.apart import first_string
from leafturner.closed import are_equal, is_at_rest
from leafturner.decide import decide, shows
from leafturner.errors import BadNumber, LeafError
from leafturner.graphs import level_graph, parts
from leafturner.growth import growth
from leafturner.least import first_apart, least
from leafturner.levels import is_round
from leafturner.lines import is_name, number_in, told, untold, words_of
from leafturner.machines import DIGITS, behind, check_machine, has_digits, undoing, with_digits, with_states
from leafturner.orders import order
from leafturner.portraits import portrait_of, signs
from leafturner.sections import image_of, section_of
from leafturner.texts import read_machine, text_of
from leafturner.wordmachine import section_count
from leafturner.words import cut_word, undone_word

# N stands for a name, M for the name of a machine, X for a number, W for what tells a word or a string, T for any
# word. What stands before a star may stand there any number of times.
FORMS = {
    "machine": "NT*", "drop": "M", "show": "M", "undo": "NM", "least": "NMX", "behind": "NMXMX",
    "digits": "NMT", "states": "NMT", "alike": "MXMX", "image": "MWW", "section": "MWW", "cut": "MW",
    "undone": "MW", "rest": "MW", "equal": "MWW", "apart": "MWW", "sections": "MW", "active": "MWX",
    "degree": "MW", "order": "MW", "round": "MWX", "growth": "MX", "parts": "MXWW*", "signs": "MWX",
    "decide": "MWW",
}
STAR = "*"
BAD = "bad"
REFUSED = "refused"


def kinds_of(form, many):
    """Return the kinds of so many words behind a command, or None if there may not be so many."""
    if not form.endswith(STAR):
        return form if many == len(form) else None
    fixed = form[:-2]
    return fixed + form[-2] * (many - len(fixed)) if many >= len(fixed) else None


def is_fit(kind, word):
    if kind == "X":
        return number_in(word) is not None
    return kind not in ("N", "M") or is_name(word)


def arrangement_in(word):
    if not has_digits(len(DIGITS), word):
        raise BadNumber("not the digits of an arrangement")
    return tuple([int(digit) for digit in word])


def told_numbers(numbers):
    return " ".join([str(number) for number in numbers]) if numbers else "empty"


def yes_or_no(holds):
    return "yes" if holds else "no"


def make_from_words(*words):
    return read_machine(" ".join(words))


def make_undoing(machine):
    return undoing(machine)


def make_least(machine, state):
    return least(machine, state)


def make_behind(one, s, other, t):
    return behind(one, s, other, t)


def make_with_digits(machine, word):
    return with_digits(machine, arrangement_in(word))


def make_with_states(machine, word):
    return with_states(machine, arrangement_in(word))


# What these make is put under the name that comes first.
MAKERS = {
    "machine": make_from_words, "undo": make_undoing, "least": make_least, "behind": make_behind,
    "digits": make_with_digits, "states": make_with_states,
}


def tell_text(machine):
    return text_of(machine)


def tell_alike(one, s, other, t):
    string = first_apart(one, s, other, t)
    return "yes" if string is None else told(string)


def tell_image(machine, word, string):
    return told(image_of(machine, word, string))


def tell_section(machine, word, string):
    return told(section_of(machine, word, string))


def tell_cut(machine, word):
    return told(cut_word(machine, word))


def tell_undone(machine, word):
    return told(undone_word(machine, word))


def tell_rest(machine, word):
    return yes_or_no(is_at_rest(machine, word))


def tell_equal(machine, one, other):
    return yes_or_no(are_equal(machine, one, other))


def tell_apart(machine, one, other):
    string = first_string(machine, one, other)
    return "none" if string is None else told(string)


def tell_sections(machine, word):
    return str(section_count(machine, word))


def tell_active(machine, word, level):
    return str(activity(machine, word, level))


def tell_degree(machine, word):
    found = degree(machine, word)
    return "none" if found is None else str(found)


def tell_order(machine, word):
    kind, many = order(machine, word)
    return f"finite {many}" if kind == "finite" else kind


def tell_round(machine, word, level):
    return yes_or_no(is_round(machine, word, level))


def tell_growth(machine, length):
    return told_numbers(growth(machine, length))


def tell_parts(machine, level, *words):
    found = parts(level_graph(machine, list(words), level))
    return told_numbers([len(part) for part in found])


def tell_signs(machine, word, depth):
    return told_numbers(signs(machine[0], portrait_of(machine, word, depth)))


def tell_decided(machine, one, other):
    return shows(decide(machine, one, other))


TELLERS = {
    "show": tell_text, "alike": tell_alike, "image": tell_image, "section": tell_section, "cut": tell_cut,
    "undone": tell_undone, "rest": tell_rest, "equal": tell_equal, "apart": tell_apart, "sections": tell_sections,
    "active": tell_active, "degree": tell_degree, "order": tell_order, "round": tell_round, "growth": tell_growth,
    "parts": tell_parts, "signs": tell_signs, "decide": tell_decided,
}


class Desk:
    """Machines by their names."""

    def __init__(self):
        self.machines = {}

    def answer(self, line):
        words = words_of(line)
        if words is None or words[0] not in FORMS:
            return BAD
        command, *rest = words
        kinds = kinds_of(FORMS[command], len(rest))
        if kinds is None or not all(is_fit(kind, word) for kind, word in zip(kinds, rest)):
            return BAD
        for kind, word in zip(kinds, rest):
            if kind == "M" and word not in self.machines:
                return f"unknown {word}"
        try:
            return self.done(command, kinds, rest)
        except LeafError:
            return REFUSED

    def done(self, command, kinds, words):
        """Do what a command says, and return the answer; nothing changes if an error is raised."""
        if command == "drop":
            del self.machines[words[0]]
            return "ok"
        values = [self.value_of(kind, word) for kind, word in zip(kinds, words)]
        if command not in MAKERS:
            tell = TELLERS[command]
            return tell(*values)
        make = MAKERS[command]
        name, *others = values
        machine = make(*others)
        check_machine(machine)
        self.machines[name] = machine
        return str(len(machine[1]))

    def value_of(self, kind, word):
        if kind == "M":
            return self.machines[word]
        if kind == "X":
            return number_in(word)
        return untold(word) if kind == "W" else word

    def answers(self, lines):
        return [self.answer(line) for line in lines]

    def names(self):
        return sorted(self.machines)

    def thing(self, name):
        return self.machines.get(name)

    def copied(self):
        """Return another desk with the same machines."""
        other = Desk()
        other.machines = dict(self.machines)
        return other
