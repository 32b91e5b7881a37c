"""Lines of text for a desk: their words, names, numbers, and what tells an empty text."""

FIRST_SIGN = 33
LAST_SIGN = 126
PERCENT_SIGN = 37
NAME_LETTERS = "abcdefghijklmnopqrstuvwxyz"
LONGEST_NAME = 12
DECIMALS = "0123456789"
LONGEST_NUMBER = 2
EMPTY = "-"


def is_sign(character):
    """Tell whether a character may stand in a word of a line."""
    code = ord(character)
    return FIRST_SIGN <= code <= LAST_SIGN and code != PERCENT_SIGN


def is_line_word(word):
    return word != "" and all(is_sign(character) for character in word)


def words_of(line):
    words = line.split(" ")
    if not all(is_line_word(word) for word in words):
        return None
    return words


def is_name(word):
    return 1 <= len(word) <= LONGEST_NAME and all(letter in NAME_LETTERS for letter in word)


def number_in(word):
    if not 1 <= len(word) <= LONGEST_NUMBER or not all(digit in DECIMALS for digit in word):
        return None
    if len(word) > 1 and word[0] == "0":
        return None
    return int(word)


def told(text):
    return EMPTY if text == "" else text


def untold(word):
    return "" if word == EMPTY else word
