"""Cores: lists of words to which all sections of all words come down."""

from leafturner.errors import BadNumber, NoAnswer, TooLarge
from leafturner.explore import explored
from leafturner.least import alike_numbers, class_rows
from leafturner.machines import check_machine
from leafturner.sorter import Sorter
from leafturner.tidy import Tidy
from leafturner.words import check_word, letters_of, places

MOST_WORDS = 60
GREATEST_DEPTH = 8
GREATEST_LENGTH = 12
MOST_SECTIONS_AT_LENGTH = 800
# No word has more different sections at strings of the greatest depth.
ALL_SECTIONS_AT_DEPTH = 65536
# A list that grows beyond these bounds, or for so many turns, most likely grows for ever.
MOST_TURNS = 30
MOST_CORE_WORDS = 400
MOST_WORDS_OF_TURN = 20000


def is_directed(machine):
    check_machine(machine)
    return any(rests(machine, state) and all_lead_to(machine, state) for state in range(len(machine[1])))


def rests(machine, state):
    return all(entry == (x, state) for x, entry in enumerate(machine[1][state]))


def all_lead_to(machine, resting):
    """Tell whether each other state goes on in a state for all digits but at most one."""
    for state, row in enumerate(machine[1]):
        elsewhere = [after for _, after in row if after != resting]
        if state != resting and len(elsewhere) > 1:
            return False
    return True


def coming_again(rows):
    """Return the numbers of the rows to which ways of every length lead."""
    arriving = [0] * len(rows)
    for row in rows:
        for _, after in row:
            arriving[after] += 1
    left = [number for number, many in enumerate(arriving) if many == 0]
    at = 0
    while at < len(left):
        row = rows[left[at]]
        for _, after in row:
            arriving[after] -= 1
            if arriving[after] == 0:
                left.append(after)
        at += 1
    return [number for number, many in enumerate(arriving) if many > 0]


def first_words(found, numbers):
    """Return a dict that has for the number of each class its first word in the order of words."""
    firsts = {}
    for word in sorted(found, key=order_of):
        firsts.setdefault(numbers[word], word)
    return firsts


def order_of(word):
    return (len(word), places(word))


def different(words):
    """Return the list of the words without duplicates."""
    return list({word: True for word in words})


def next_list(tidy, letters, listed):
    """Return the returning words among the products of a list of words, all different, and their sections.

    The list has tidy words, no two of them equal. The second value tells whether the words are those of the list,
    up to equality.
    """
    longer = [tidy.tidied(word + letter) for word in listed for letter in letters]
    found, rows = explored(tidy, different(listed + longer), MOST_WORDS_OF_TURN)
    numbers = alike_numbers(rows)
    kept = coming_again(class_rows(rows, numbers))
    firsts = first_words(found, {word: number for word, number in zip(found, numbers)})
    return [firsts[number] for number in kept], sorted(numbers[:len(listed)]) == kept


def least_core(machine):
    check_machine(machine)
    tidy = Tidy(machine)
    letters = letters_of(machine)
    listed = different([""] + [tidy.tidied(letter) for letter in letters])
    settled = False
    turns = 0
    try:
        while not settled and turns < MOST_TURNS and len(listed) <= MOST_CORE_WORDS:
            listed, settled = next_list(tidy, letters, listed)
            turns += 1
    except TooLarge:
        return None
    if not settled:
        return None
    return sorted(listed, key=order_of)


def full_core(machine):
    listed = least_core(machine)
    if listed is None:
        return None
    sorter = Sorter(machine)
    for word in listed:
        sorter.first_equal(word)
    for letter in letters_of(machine):
        if sorter.known(letter) is None:
            listed.append(sorter.first_equal(letter))
    return listed


class Listed:
    """A list of words of a machine; tells which words are equal to one of them, and which come down to them."""

    def __init__(self, machine, words):
        self.tidy = Tidy(machine)
        self.letters = letters_of(machine)
        self.words = [self.tidy.tidied(word) for word in words]
        self.sorter = Sorter(machine)
        self.firsts = different([self.sorter.first_equal(word) for word in self.words])
        self.told = {}

    def has(self, word):
        """Tell whether a tidy word is equal to a word of the list."""
        if word not in self.told:
            self.told[word] = self.sorter.known(word) is not None
        return self.told[word]

    def is_whole(self):
        """Tell whether the list is a core list."""
        if not self.words or len(self.firsts) < len(self.words):
            return False
        letters = [self.tidy.tidied(letter) for letter in self.letters]
        needed = [""] + letters + self.parts_of(self.words)
        return all(self.has(word) for word in needed)

    def parts_of(self, words):
        """Return the different tidy sections of tidy words at digits."""
        return different([section for word in words for _, section in self.tidy.row(word)])

    def depth(self, word, most, bound):
        """Return the least length at which all sections of a word are equal to words of the list.

        Returns None if it is greater than `most`, or if more than so many different sections at strings of one
        length are none of these.
        """
        level = [self.tidy.tidied(word)]
        for length in range(most + 1):
            level = [part for part in level if not self.has(part)]
            if not level:
                return length
            if len(level) > bound:
                return None
            level = self.parts_of(level)
        return None

    def fit(self, word, row):
        """Tell whether the lengths of a row are enough for the products of a word and the letters."""
        return all(0 <= length <= GREATEST_DEPTH
                   and self.depth(word + letter, length, ALL_SECTIONS_AT_DEPTH) is not None
                   for letter, length in zip(self.letters, row))


def check_list(machine, words):
    check_machine(machine)
    for word in words:
        check_word(machine, word)
    if len(words) > MOST_WORDS:
        raise TooLarge("there are too many words in the list")


def is_core_list(machine, words):
    check_list(machine, words)
    return Listed(machine, words).is_whole()


def checked_core_list(machine, words):
    listed = Listed(machine, words)
    if not listed.is_whole():
        raise NoAnswer("the list is no core list")
    return listed


def depths(machine, words, *, most=8):
    check_list(machine, words)
    listed = checked_core_list(machine, words)
    if most not in range(GREATEST_DEPTH + 1):
        raise BadNumber("not a depth that is looked for")
    found = []
    for word in words:
        row = [listed.depth(word + letter, most, MOST_SECTIONS_AT_LENGTH) for letter in listed.letters]
        if None in row:
            return None
        found.append(row)
    return found


def fits(machine, words, table):
    check_list(machine, words)
    listed = Listed(machine, words)
    if not listed.is_whole():
        return False
    if [len(row) for row in table] != [len(listed.letters)] * len(words):
        return False
    return all(listed.fit(word, row) for word, row in zip(words, table))


def come_down(machine, words, word):
    check_list(machine, words)
    check_word(machine, word)
    listed = checked_core_list(machine, words)
    length = listed.depth(word, GREATEST_LENGTH, MOST_SECTIONS_AT_LENGTH)
    if length is None:
        raise NoAnswer("the word does not come down to the list soon enough")
    return length
