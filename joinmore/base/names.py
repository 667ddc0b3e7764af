"""Integers and names."""

MAX_LETTERS = 8

_LETTERS = "abcdefghijklmnopqrstuvwxyz"
_INTEGER_BOUND = 10 ** 60


def is_whole(value):
    """Whether the value is an integer of any size."""
    return isinstance(value, int) and not isinstance(value, bool)


def is_integer(value):
    """Whether the value is an integer of at most sixty digits."""
    return is_whole(value) and -_INTEGER_BOUND < value < _INTEGER_BOUND


def is_name(value):
    """Whether the value is a name: one to eight letters a to z."""
    if not isinstance(value, str) or not 1 <= len(value) <= MAX_LETTERS:
        return False
    return all([letter in _LETTERS for letter in value])
