"""Papers of games: they are growing, or some group leaves the pay of some order."""

from joinmore.base.games import check_game
from joinmore.base.gaps import broken, gap, is_growing
from joinmore.base.sets import union, without
from joinmore.errors import InvalidOperation
from joinmore.pay.pays import is_order, orders, pay_of
from joinmore.pay.sharings import leaving_of


def left_by(game, test):
    """The order that a broken test tells, and the group that leaves its pay, as [0.14] says."""
    if gap(game, test) >= 0:
        raise InvalidOperation("this test is not broken")
    return _left_by(game, test)


def left_orders(game):
    """All orders whose pay some group leaves, ascending."""
    # In a growing game no group leaves a pay [0.13], so the pays need not be asked.
    if is_growing(game):
        return ()
    return tuple([order for order in orders(game) if leaving_of(game, 1, pay_of(game, order))])


def game_paper(game):
    """A paper of a game: it is growing, or a group leaves the pay of an order."""
    tests_broken = broken(game)
    if not tests_broken:
        return ("growing",)
    return ("left",) + _left_by(game, tests_broken[0])


def is_game_paper(game, value):
    """Whether the value is a paper of the game."""
    check_game(game)
    if value == ("growing",):
        return is_growing(game)
    if not isinstance(value, tuple) or len(value) != 3:
        return False
    word, order, group = value
    return word == "left" and is_order(game, order) and group in leaving_of(game, 1, pay_of(game, order))


def are_kept_within(game, group):
    """Whether the pays of the game of a group alone are kept."""
    check_game(game)
    # They are exactly if that game is growing [0.15].
    return is_growing(game.only(group))


def _left_by(game, test):
    group, one, other = test
    rest = without(game.people, group + (one, other))
    return group + (one, other) + rest, union(group, (other,))
