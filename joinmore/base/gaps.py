"""Tests of a game: what two persons bring to a group together and one by one."""

from joinmore.base.games import check_game, check_group
from joinmore.base.sets import common, union
from joinmore.errors import InvalidOperation, NotGrowing


def is_test(game, value):
    """Whether the value is a test of the game."""
    check_game(game)
    if not isinstance(value, tuple) or len(value) != 3:
        return False
    group, one, other = value
    if group not in game.groups or one not in game or other not in game:
        return False
    return one < other and one not in group and other not in group


def tests(game):
    """All tests of the game, ascending."""
    check_game(game)
    people = game.people
    pairs = [(one, other) for at, one in enumerate(people) for other in people[at + 1:]]
    return tuple([
        (group, one, other) for group in game.groups for one, other in pairs
        if one not in group and other not in group
    ])


def gap(game, test):
    """What the two persons of a test bring together, more than one by one."""
    if not is_test(game, test):
        raise InvalidOperation("this is no test of the game")
    group, one, other = test
    both = game.worth_of(group + (one, other))
    return both + game.worth_of(group) - game.worth_of(group + (one,)) - game.worth_of(group + (other,))


def broken(game):
    """All broken tests, ascending."""
    if is_growing(game):
        return ()
    return tuple([test for test, told in zip(tests(game), game.gaps) if told < 0])


def is_growing(game):
    """Whether all tests hold."""
    check_game(game)
    return all([told >= 0 for told in game.gaps])


def check_growing(game):
    """Refuse a game that is not growing."""
    if not is_growing(game):
        raise NotGrowing(broken(game)[0])


def is_shrinking(game):
    """Whether no gap is above 0."""
    check_game(game)
    return all([told <= 0 for told in game.gaps])


def is_additive(game):
    """Whether the game is growing and shrinking."""
    return is_growing(game) and is_shrinking(game)


def is_growing_by(game, one, other):
    """Whether the union and what is common of two groups have at least their worths."""
    check_game(game)
    check_group(game, one)
    check_group(game, other)
    return game[union(one, other)] + game[common(one, other)] >= game[one] + game[other]
