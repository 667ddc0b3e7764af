"""Fair shares, dividends, and games told back by sharings."""

from joinmore.base.games import check_game, check_people, game_of
from joinmore.base.gaps import is_growing
from joinmore.base.names import is_integer
from joinmore.base.ratios import common_multiple, fraction, made_whole
from joinmore.base.rows import dividends_of, is_row, sums, worths_of
from joinmore.base.sets import groups_of, is_ascending
from joinmore.errors import InvalidOperation


def fair(game):
    """The fair shares of all persons, as fractions."""
    check_game(game)
    # The persons of a group share its dividend equally [14.2], so no order has to be walked.
    multiple = common_multiple(list(range(1, len(game) + 1)))
    parts = [(group, told * multiple // len(group)) for group, told in _dividends(game) if group]
    shares = [sum([part for group, part in parts if person in group]) for person in game.people]
    return tuple([fraction(share, multiple) for share in shares])


def fair_sharing(game):
    """The least integer by which all fair shares become integers, and the tuple of these."""
    return made_whole(fair(game))


def dividends(game):
    """The dict from all groups but () to their dividends."""
    check_game(game)
    return {group: told for group, told in _dividends(game) if group}


def by_dividends(people, dividends):
    """The game with these dividends; the groups that are not told have 0."""
    check_people(people)
    groups = groups_of(people)
    if not _are_dividends(groups, dividends):
        raise InvalidOperation("the dividends are no dict from some groups to integers")
    return game_of(people, worths_of([dividends.get(group, 0) for group in groups]))


def told_back(people, sharings):
    """The game in which each group has the least sum for its persons in some tuples of integers."""
    check_people(people)
    if not _are_sharings(people, sharings):
        raise InvalidOperation("the sharings are no set of tuples with the same sum")
    least = sums(sharings[0])
    for sharing in sharings:
        least = [min(one, other) for one, other in zip(least, sums(sharing))]
    return game_of(people, least)


def is_told_back(game):
    """Whether the game is the one that is told back by its pays."""
    # It is exactly if it is growing [14.3].
    return is_growing(game)


def _dividends(game):
    return list(zip(game.groups, dividends_of(game.row)))


def _are_dividends(groups, value):
    if not isinstance(value, dict):
        return False
    return all([bool(group) and group in groups and is_integer(value[group]) for group in value])


def _are_sharings(people, value):
    if not isinstance(value, tuple) or not value:
        return False
    if not all([is_row(people, sharing) for sharing in value]):
        return False
    return is_ascending(value) and all([sum(sharing) == sum(value[0]) for sharing in value])
