"""Words of a line: names and numbers, separated by one blank."""

from joinmore.base.names import is_name

_MAX_DIGITS = 60


def words_of(line):
    """The words of a line; two blanks have an empty word between them."""
    return line.split(" ")


def is_number(word):
    """Whether the word is an integer of at most sixty digits, as it is written."""
    digits = word.removeprefix("-")
    if not 1 <= len(digits) <= _MAX_DIGITS or not all([digit in "0123456789" for digit in digits]):
        return False
    return digits[0] != "0" or word == "0"


def are_names(words):
    """Whether these are one or more names."""
    return len(words) > 0 and all([is_name(word) for word in words])


def line_of(values):
    """A line of words for some names and integers."""
    return " ".join([str(value) for value in values])
