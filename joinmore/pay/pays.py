"""Orders in which the persons come, and what each one brings then."""

from joinmore.base.games import check_game
from joinmore.errors import InvalidOperation
from joinmore.pay.sharings import check_sharing


def is_order(game, value):
    """Whether the value is a tuple of all persons, each once."""
    check_game(game)
    if not isinstance(value, tuple) or len(value) != len(game):
        return False
    return all([person in value for person in game.people])


def check_order(game, value):
    """Refuse what is no order of the game."""
    if not is_order(game, value):
        raise InvalidOperation("this is no order of the game")


def pay_of(game, order):
    """The pay of what is known to be an order."""
    return pay_within(game, order, game.people)


def pay_within(game, order, group):
    """What each person of a group brings when these alone come, as the order tells."""
    coming = [person for person in order if person in group]
    worths = [game.worth_of(coming[:many]) for many in range(len(coming) + 1)]
    brought = {person: worths[at + 1] - worths[at] for at, person in enumerate(coming)}
    return tuple([brought[person] for person in group])


def orders(game):
    """All orders of the persons, ascending."""
    check_game(game)
    people = game.people
    begun = [()]
    # Each begun order goes on with ascending persons, so the orders stay ascending.
    for _ in people:
        begun = [order + (person,) for order in begun for person in people if person not in order]
    return tuple(begun)


def pay(game, order):
    """What each person brings when the persons come in this order."""
    check_order(game, order)
    return pay_of(game, order)


def pays(game):
    """All different pays, ascending."""
    return tuple(sorted(set([pay_of(game, order) for order in orders(game)])))


def orders_of(game, sharing):
    """All orders whose pay the sharing is, ascending."""
    check_sharing(game, sharing)
    return tuple([order for order in orders(game) if pay_of(game, order) == sharing])
