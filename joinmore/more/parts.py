"""Parts of a growing game: groups that gain nothing by one another."""

from joinmore.base.games import check_game, check_group, check_person
from joinmore.base.gaps import check_growing
from joinmore.pay.bounds import greatest_of
from joinmore.pay.mixtures import is_mixture
from joinmore.pay.papers import weights_for
from joinmore.pay.sharings import check_kept, check_sharing


def does_split(game, group):
    """Whether the worths of a group and of the others sum to the worth of all."""
    check_game(game)
    check_group(game, group)
    check_growing(game)
    return _does_split(game, group)


def splitting(game):
    """All groups that split the game, ascending."""
    check_game(game)
    check_growing(game)
    return tuple(_splitting_of(game))


def parts(game):
    """The least groups but () that split the game, ascending."""
    groups = splitting(game)
    return tuple(sorted(set([_least_with(groups, person) for person in game.people])))


def part_of(game, person):
    """The part that has a person."""
    check_game(game)
    check_person(game, person)
    check_growing(game)
    return _least_with(_splitting_of(game), person)


def freedom(game):
    """The number of persons less the number of parts."""
    found = parts(game)
    return len(game.people) - len(found)


def part_games(game):
    """The games of the parts alone, in the order of the parts."""
    return tuple([game.only(part) for part in parts(game)])


def short_paper(game, sharing):
    """Weights of at most one order more than the freedom by which a kept sharing is the mixture."""
    _check_kept_sharing(game, sharing)
    # All groups that split the game are tight from the start, so [7.1] takes no more orders than that.
    return weights_for(game, sharing)


def is_short_paper(game, sharing, value):
    """Whether the value is weights of so few orders by which the sharing is the mixture."""
    _check_kept_sharing(game, sharing)
    return is_mixture(game, sharing, value) and len(value) <= freedom(game) + 1


def _check_kept_sharing(game, sharing):
    check_sharing(game, sharing)
    check_growing(game)
    check_kept(game, 1, sharing)


def _does_split(game, group):
    return game[group] == greatest_of(game, group)


def _splitting_of(game):
    return [group for group in game.groups if _does_split(game, group)]


def _least_with(groups, person):
    """The least group with the person; what two groups that split have in common splits, too, so there is one."""
    return min([group for group in groups if person in group], key=len)
