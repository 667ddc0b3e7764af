"""Beaten sharings: a group can do better for each of its persons by itself."""

from joinmore.base.games import check_game, check_some
from joinmore.base.gaps import check_growing
from joinmore.base.rows import sum_for
from joinmore.base.sets import without
from joinmore.more.factors import check_factor, check_times, is_factor, is_times
from joinmore.pay.pays import pay_of
from joinmore.pay.sharings import check_sharing, leaving_of, slacks_of


def does_beat(game, factor, better, sharing, group):
    """Whether a sharing of the game times a factor beats a sharing of the game through a group."""
    check_game(game)
    check_factor(factor)
    check_times(game, factor, better)
    check_sharing(game, sharing)
    check_some(game, group)
    return _does_beat(game, factor, better, sharing, group)


def needy(game, sharing):
    """The groups with the greatest lack for their number of persons, ascending, if they lack anything."""
    check_sharing(game, sharing)
    return tuple(_needy(game, sharing))


def steady_paper(game, sharing):
    """A paper of a sharing: it is kept, or a kept one of the game times a factor beats it through a group."""
    check_sharing(game, sharing)
    check_growing(game)
    groups = _needy(game, sharing)
    if not groups:
        return ("kept",)
    return ("beaten", groups[0], len(groups[0]), _better(game, sharing, groups[0]))


def is_steady_paper(game, sharing, value):
    """Whether the value is a paper of the sharing."""
    check_sharing(game, sharing)
    if value == ("kept",):
        return not leaving_of(game, 1, sharing)
    if not isinstance(value, tuple) or len(value) != 4:
        return False
    word, group, factor, better = value
    if word != "beaten" or group not in game.groups or not group:
        return False
    if not is_factor(factor) or not is_times(game, factor, better) or leaving_of(game, factor, better):
        return False
    return _does_beat(game, factor, better, sharing, group)


def _does_beat(game, factor, better, sharing, group):
    told = [more > share * factor for person, more, share in zip(game.people, better, sharing) if person in group]
    if not all(told):
        return False
    return sum_for(game.people, better, group) <= game[group] * factor


def _needy(game, sharing):
    lacks = [(-left, len(group), group) for group, left in zip(game.groups, slacks_of(game, 1, sharing)) if left < 0]
    most, many = 0, 1
    for lack, number, _ in lacks:
        if lack * many > most * number:
            most, many = lack, number
    return [group for lack, number, group in lacks if lack * many == most * number]


def _better(game, sharing, group):
    """The kept sharing, of the game times the number of persons of a needy group, that [19.2] tells."""
    many = len(group)
    lack = game[group] - sum_for(game.people, sharing, group)
    # The others come behind the group, in the order of their names.
    brought = pay_of(game, group + without(game.people, group))
    return tuple([
        many * share + lack if person in group else many * told
        for person, share, told in zip(game.people, sharing, brought)
    ])
