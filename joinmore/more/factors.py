"""Factors, and sharings of a game times a factor: so fractions are told by integers."""

from joinmore.base.names import is_integer
from joinmore.base.rows import is_row
from joinmore.errors import InvalidNumber, InvalidSharing

MAX_FACTOR = 10 ** 6


def is_factor(value):
    """Whether the value is an integer from 1 to a million."""
    return is_integer(value) and 1 <= value <= MAX_FACTOR


def check_factor(value):
    """Refuse what is no factor."""
    if not is_factor(value):
        raise InvalidNumber(value)


def is_times(game, factor, value):
    """Whether the value is a sharing of the game times a factor."""
    return is_row(game.people, value) and sum(value) == game[game.people] * factor


def check_times(game, factor, value):
    """Refuse what is no sharing of the game times a factor."""
    if not is_times(game, factor, value):
        raise InvalidSharing("this is no sharing of the game times the factor")
