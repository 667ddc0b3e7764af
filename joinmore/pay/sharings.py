"""Sharings of a game, and the groups that leave them."""

from joinmore.base.games import check_game, check_group
from joinmore.base.sets import is_row, sum_for
from joinmore.errors import InvalidSharing


def is_sharing(game, value):
    """Whether the value has an integer for each person, and sums to the worth of all."""
    check_game(game)
    return is_row(game.people, value) and sum(value) == game[game.people]


def check_sharing(game, value):
    """Refuse what is no sharing of the game."""
    if not is_sharing(game, value):
        raise InvalidSharing("this is no sharing of the game")


def share_for(game, sharing, group):
    """What the persons of a group have together."""
    check_sharing(game, sharing)
    check_group(game, group)
    return sum_for(game.people, sharing, group)


def slack(game, sharing, group):
    """What a group has more than it would gain alone."""
    return share_for(game, sharing, group) - game[group]


def leaving(game, sharing):
    """All groups that leave the sharing, ascending."""
    check_sharing(game, sharing)
    return tuple([group for group in game.groups if sum_for(game.people, sharing, group) < game[group]])


def is_kept(game, value):
    """Whether the value is a sharing that no group leaves."""
    return is_sharing(game, value) and not leaving(game, value)
