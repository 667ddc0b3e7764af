"""Least and greatest shares, tight groups, and what one person can give to another one."""

from joinmore.base.games import check_game, check_group, check_person
from joinmore.base.gaps import check_growing
from joinmore.base.names import is_integer
from joinmore.base.sets import without
from joinmore.errors import InvalidNumber, InvalidOperation
from joinmore.pay.sharings import check_kept, check_sharing, slacks_of


def least_share(game, group):
    """The least share of a group in all kept sharings."""
    check_game(game)
    check_group(game, group)
    check_growing(game)
    return game[group]


def greatest_share(game, group):
    """The greatest share of a group in all kept sharings."""
    check_game(game)
    check_group(game, group)
    check_growing(game)
    return greatest_of(game, group)


def greatest_of(game, group):
    """What the others leave of the worth of all, if they have no more than their worth."""
    return game[game.people] - game[without(game.people, group)]


def tight(game, sharing):
    """The groups whose share is their worth, ascending."""
    check_sharing(game, sharing)
    return tuple(tight_of(game, 1, sharing))


def tight_of(game, factor, sharing):
    """The tight groups in a sharing of the game times a factor, ascending."""
    return [group for group, left in zip(game.groups, slacks_of(game, factor, sharing)) if left == 0]


def check_two(game, giver, getter):
    """Refuse what are no two different persons of the game."""
    check_person(game, giver)
    check_person(game, getter)
    if giver == getter:
        raise InvalidOperation("the giver and the getter are one person")


def room(game, sharing, giver, getter):
    """The greatest amount that the giver can give to the getter so that the sharing stays kept."""
    check_sharing(game, sharing)
    check_two(game, giver, getter)
    check_kept(game, 1, sharing)
    return room_of(game, 1, sharing, giver, getter)


def room_of(game, factor, sharing, giver, getter):
    """The least slack of the groups with the giver and without the getter, in a sharing of the game times a factor."""
    slacks = slacks_of(game, factor, sharing)
    return min([left for group, left in zip(game.groups, slacks) if giver in group and getter not in group])


def gift(game, sharing, giver, getter, amount):
    """The sharing behind a gift that the groups bear."""
    check_sharing(game, sharing)
    check_two(game, giver, getter)
    if not is_integer(amount) or amount < 0:
        raise InvalidNumber(amount)
    check_kept(game, 1, sharing)
    if amount > room_of(game, 1, sharing, giver, getter):
        raise InvalidOperation("some group would leave behind this gift")
    return given(game, sharing, giver, getter, amount)


def given(game, sharing, giver, getter, amount):
    """The sharing in which the giver has so much less, and the getter so much more."""
    changes = {giver: -amount, getter: amount}
    return tuple([share + changes.get(person, 0) for person, share in zip(game.people, sharing)])
