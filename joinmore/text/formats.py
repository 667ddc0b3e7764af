"""Texts of games, sharings, weights and values, and what is read from them."""

from joinmore.base.games import Game, are_worths, check_game, is_people
from joinmore.base.names import is_integer, is_name
from joinmore.base.sets import groups_of
from joinmore.errors import InvalidOperation, ParseError
from joinmore.pay.mixtures import are_weights, check_weights
from joinmore.pay.sharings import check_sharing, is_sharing
from joinmore.text.values import MAX_DEPTH, value_of
from joinmore.text.words import are_names, is_number, line_of, words_of


def write_game(game):
    """The text of a game."""
    check_game(game)
    lines = [line_of(("persons",) + game.people)]
    return "\n".join(lines + [line_of(("worth",) + group + (game[group],)) for group in game.groups if group])


def write_sharing(game, sharing):
    """The text of a sharing of a game."""
    check_sharing(game, sharing)
    return "\n".join([line_of(("share", person, share)) for person, share in zip(game.people, sharing)])


def write_weights(game, weights):
    """The text of weights of orders of a game."""
    check_weights(game, weights)
    if not all([is_integer(weight) for _, weight in weights]):
        raise InvalidOperation("a weight has more than sixty digits")
    return "\n".join([line_of(("order", weight) + order) for order, weight in weights])


def write_value(value):
    """The text of a value."""
    return " ".join(_words_for(value, MAX_DEPTH))


def read_game(text):
    """The game with just this text."""
    rows = _rows(text)
    _check_forms(rows[:1], _tells_persons, 0)
    _check_forms(rows[1:], _tells_worth, 1)
    people = tuple(rows[0][1:])
    groups = [tuple(row[1:-1]) for row in rows[1:]]
    if not is_people(people) or ((),) + tuple(groups) != groups_of(people):
        raise ParseError(len(rows))
    worths = {group: int(row[-1]) for group, row in zip(groups, rows[1:])}
    if not are_worths(people, worths):
        raise ParseError(len(rows))
    return Game(people, worths)


def read_sharing(game, text):
    """The sharing of the game with just this text."""
    check_game(game)
    rows = _rows(text)
    _check_forms(rows, _tells_share, 0)
    sharing = tuple([int(row[2]) for row in rows])
    if tuple([row[1] for row in rows]) != game.people or not is_sharing(game, sharing):
        raise ParseError(len(rows))
    return sharing


def read_weights(game, text):
    """The weights of orders of the game with just this text."""
    check_game(game)
    rows = _rows(text)
    _check_forms(rows, _tells_order, 0)
    weights = tuple([(tuple(row[2:]), int(row[1])) for row in rows])
    if not are_weights(game, weights):
        raise ParseError(len(rows))
    return weights


def read_value(text):
    """The value with just this text."""
    rows = _rows(text)
    found = value_of(rows[0])
    # A value that is told in another order than that of its text has another text.
    if not found or _words_for(found[0], MAX_DEPTH) != rows[0]:
        raise ParseError(0)
    if len(rows) > 1:
        raise ParseError(1)
    return found[0]


def _rows(text):
    """The words of each line of a text."""
    if not isinstance(text, str):
        raise InvalidOperation("the text is no string")
    return [words_of(line) for line in text.split("\n")]


def _check_forms(rows, is_right, begin):
    """Refuse the first row that has not the form, by its index in the text."""
    for at, row in enumerate(rows):
        if not is_right(row):
            raise ParseError(begin + at)


def _tells_persons(row):
    return row[0] == "persons" and are_names(row[1:])


def _tells_worth(row):
    return row[0] == "worth" and are_names(row[1:-1]) and is_number(row[-1])


def _tells_share(row):
    return len(row) == 3 and row[0] == "share" and is_name(row[1]) and is_number(row[2])


def _tells_order(row):
    return len(row) > 1 and row[0] == "order" and is_number(row[1]) and are_names(row[2:])


def _words_for(value, depth):
    """The words of a value of at most so many tuples and dicts one in another."""
    if value is None:
        return ["none"]
    if value is True:
        return ["yes"]
    if value is False:
        return ["no"]
    if is_integer(value):
        return [str(value)]
    if is_name(value):
        return ["=" + value]
    if depth > 0 and isinstance(value, tuple):
        return ["("] + _all_words(value, depth - 1) + [")"]
    if depth > 0 and isinstance(value, dict):
        parts = [part for key in sorted(list(value), key=_shown) for part in (key, value[key])]
        return ["{"] + _all_words(parts, depth - 1) + ["}"]
    raise InvalidOperation("this value has no text")


def _all_words(values, depth):
    return [word for value in values for word in _words_for(value, depth)]


def _shown(value):
    return repr(value)
