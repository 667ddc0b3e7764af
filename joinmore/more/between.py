"""What lies between a growing game and a shrinking one, and sharings of sums of games."""

from joinmore.base.games import check_game, check_person
from joinmore.base.gaps import check_growing, is_shrinking
from joinmore.base.rows import is_row, sums
from joinmore.errors import InvalidOperation, InvalidSharing, Left
from joinmore.more.spans import first_between
from joinmore.pay.sharings import is_kept


def are_between(low, high, value):
    """Whether the value is amounts of at least the worths of the one game and at most those of the other one."""
    _check_same(low, high)
    return _are_between(low, high, value)


def between_paper(low, high):
    """A paper: the first amounts between the games, or the first group that has more in the first game."""
    _check_sides(low, high)
    groups = _above(low, high)
    if groups:
        return ("above", groups[0])
    return ("between", first_between(list(low.row), list(high.row)))


def is_between_paper(low, high, value):
    """Whether the value is a paper of the two games."""
    _check_same(low, high)
    if not isinstance(value, tuple) or len(value) != 2:
        return False
    word, shown = value
    if word == "between":
        return _are_between(low, high, shown)
    return word == "above" and shown in _above(low, high)


def span(low, high, person):
    """The least and the greatest integer that a person can have in amounts between the games."""
    check_game(low)
    check_game(high)
    check_person(low, person)
    _check_sides(low, high)
    if _above(low, high):
        raise InvalidOperation("there are no amounts between the games")
    pairs = [(group, group + (person,)) for group in low.groups if person not in group]
    least = max([low.worth_of(joined) - high.worth_of(group) for group, joined in pairs])
    greatest = min([high.worth_of(joined) - low.worth_of(group) for group, joined in pairs])
    return least, greatest


def split(one, other, amounts):
    """The first kept sharing of the one game, with one of the other game, that sum to kept shares of both."""
    _check_amounts(one, other, amounts)
    # What the first game can give to a group is bounded by what the second one must have.
    high = [amount - worth for amount, worth in zip(sums(amounts), other.row)]
    first = first_between(list(one.row), high)
    return first, tuple([amount - share for amount, share in zip(amounts, first)])


def is_split(one, other, amounts, value):
    """Whether the value is a kept sharing of each game that sum to the amounts."""
    _check_amounts(one, other, amounts)
    if not isinstance(value, tuple) or len(value) != 2:
        return False
    first, second = value
    if not is_kept(one, first) or not is_kept(other, second):
        return False
    return amounts == tuple([share + more for share, more in zip(first, second)])


def _check_same(one, other):
    check_game(one)
    check_game(other)
    _check_people(one, other)


def _check_people(one, other):
    if one.people != other.people:
        raise InvalidOperation("the two games do not have the same persons")


def _check_sides(low, high):
    _check_same(low, high)
    check_growing(low)
    if not is_shrinking(high):
        raise InvalidOperation("the second game is not shrinking")


def _check_amounts(one, other, value):
    check_game(one)
    check_game(other)
    total = one[one.people] + other[other.people]
    if not is_row(one.people, value) or sum(value) != total:
        raise InvalidSharing("these are no amounts that sum to the worths of all in both games")
    _check_people(one, other)
    check_growing(one)
    check_growing(other)
    for group, amount, worth, more in zip(one.groups, sums(value), one.row, other.row):
        if amount < worth + more:
            raise Left(group)


def _are_between(low, high, value):
    if not is_row(low.people, value):
        return False
    return all([worth <= amount <= more for worth, amount, more in zip(low.row, sums(value), high.row)])


def _above(low, high):
    """The groups that have a greater worth in the first game, ascending."""
    return [group for group, worth, more in zip(low.groups, low.row, high.row) if worth > more]
