"""Orders in which the persons come, and what each one brings then."""

from joinmore.base.games import check_game
from joinmore.errors import InvalidOperation
from joinmore.pay.sharings import check_sharing


def is_order(game, value):
    """Whether the value is a tuple of all persons, each once."""
    check_game(game)
    if not isinstance(value, tuple) or len(value) != len(game):
        return False
    return all([person in value for person in game.people])


def pay_of(game, order):
    """The pay of what is known to be an order."""
    worths = [game.worth_of(order[:many]) for many in range(len(order) + 1)]
    brought = {person: worths[at + 1] - worths[at] for at, person in enumerate(order)}
    return tuple([brought[person] for person in game.people])


def orders(game):
    """All orders of the persons, ascending."""
    check_game(game)
    people = game.people
    begun = [()]
    # Each begun order goes on with ascending persons, so the orders stay ascending.
    for _ in people:
        begun = [order + (person,) for order in begun for person in people if person not in order]
    return tuple(begun)


def pay(game, order):
    """What each person brings when the persons come in this order."""
    if not is_order(game, order):
        raise InvalidOperation("this is no order of the game")
    return pay_of(game, order)


def pays(game):
    """All different pays, ascending."""
    return tuple(sorted(set([pay_of(game, order) for order in orders(game)])))


def orders_of(game, sharing):
    """All orders whose pay the sharing is, ascending."""
    check_sharing(game, sharing)
    return tuple([order for order in orders(game) if pay_of(game, order) == sharing])
