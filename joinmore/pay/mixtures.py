"""Weights of orders, and what the pays of these orders mix to."""

from joinmore.base.games import check_game
from joinmore.base.names import is_whole
from joinmore.base.sets import is_ascending
from joinmore.errors import InvalidWeights
from joinmore.pay.pays import is_order, pay
from joinmore.pay.sharings import check_sharing


def are_weights(game, value):
    """Whether the value is one or more pairs of an order and an integer, ascending by different orders."""
    check_game(game)
    if not isinstance(value, tuple) or not value:
        return False
    if not all([_is_pair(game, pair) for pair in value]):
        return False
    return is_ascending([order for order, _ in value])


def check_weights(game, value):
    """Refuse what are no weights of orders of the game."""
    if not are_weights(game, value):
        raise InvalidWeights("these are no weights of orders of the game")


def weight_of(game, weights):
    """The total of the weights."""
    check_weights(game, weights)
    return _total_of(weights)


def mix(game, weights):
    """The tuple that has, for each person, the sum of weight * pay."""
    check_weights(game, weights)
    return _mix_of(game, weights)


def is_mixture(game, sharing, value):
    """Whether the value is weights that mix to the sharing times their total."""
    check_sharing(game, sharing)
    if not are_weights(game, value):
        return False
    total = _total_of(value)
    return _mix_of(game, value) == tuple([share * total for share in sharing])


def _is_pair(game, value):
    if not isinstance(value, tuple) or len(value) != 2:
        return False
    return is_order(game, value[0]) and is_whole(value[1]) and value[1] >= 1


def _total_of(weights):
    return sum([weight for _, weight in weights])


def _mix_of(game, weights):
    rows = [[weight * share for share in pay(game, order)] for order, weight in weights]
    return tuple([sum([row[at] for row in rows]) for at in range(len(game))])
