"""Sharings of a game, and the groups that leave them."""

from joinmore.base.games import check_game, check_group
from joinmore.base.rows import is_row, sum_for, sums
from joinmore.errors import InvalidSharing, Left


def is_sharing(game, value):
    """Whether the value has an integer for each person, and sums to the worth of all."""
    check_game(game)
    return is_row(game.people, value) and sum(value) == game[game.people]


def check_sharing(game, value):
    """Refuse what is no sharing of the game."""
    if not is_sharing(game, value):
        raise InvalidSharing("this is no sharing of the game")


def slacks_of(game, factor, sharing):
    """The slacks of all groups in a sharing of the game times a factor."""
    return [share - factor * worth for share, worth in zip(sums(sharing), game.row)]


def leaving_of(game, factor, sharing):
    """The groups that leave what is known to be a sharing of the game times a factor, ascending."""
    return [group for group, left in zip(game.groups, slacks_of(game, factor, sharing)) if left < 0]


def check_kept(game, factor, sharing):
    """Refuse a sharing of the game times a factor that some group leaves."""
    groups = leaving_of(game, factor, sharing)
    if groups:
        raise Left(groups[0])


def share_for(game, sharing, group):
    """What the persons of a group have together."""
    check_sharing(game, sharing)
    check_group(game, group)
    return sum_for(game.people, sharing, group)


def slack(game, sharing, group):
    """What a group has more than it would gain alone."""
    return share_for(game, sharing, group) - game[group]


def leaving(game, sharing):
    """All groups that leave the sharing, ascending."""
    check_sharing(game, sharing)
    return tuple(leaving_of(game, 1, sharing))


def is_kept(game, value):
    """Whether the value is a sharing that no group leaves."""
    return is_sharing(game, value) and not leaving_of(game, 1, value)
