"""Plans: a sharing for each group, in which nobody gets less when the group grows."""

from joinmore.base.games import check_game
from joinmore.base.gaps import broken, check_growing, gap, is_growing
from joinmore.base.names import is_integer
from joinmore.base.rows import is_row
from joinmore.base.sets import union, without
from joinmore.errors import InvalidNumber, InvalidOperation
from joinmore.pay.mixtures import check_weights, weight_of
from joinmore.pay.papers import weights_for
from joinmore.pay.pays import check_order, is_order, pay_within
from joinmore.pay.sharings import check_kept, check_sharing


def order_plan(game, order):
    """The plan that gives each group the pay of its persons in this order."""
    check_order(game, order)
    return _plan_of(game, order)


def is_plan(game, factor, value):
    """Whether the value is a plan of the game times a factor."""
    check_game(game)
    _check_factor(factor)
    return _is_plan(game, factor, value)


def falls(game, factor, plan):
    """All triples (person, group, group) at which a plan falls, ascending."""
    check_game(game)
    _check_factor(factor)
    if not _is_plan(game, factor, plan):
        raise InvalidOperation("this is no plan of the game times the factor")
    return tuple(_falls(game, plan))


def mixed_plan(game, weights):
    """The mixture of the plans of orders by weights."""
    check_weights(game, weights)
    return _mixed(game, weights)


def plan_to(game, sharing):
    """A factor, and a plan of the game times it that never falls and ends at the sharing times it."""
    check_sharing(game, sharing)
    check_growing(game)
    check_kept(game, 1, sharing)
    weights = weights_for(game, sharing)
    return weight_of(game, weights), _mixed(game, weights)


def fall_by(game, test):
    """The order that a broken test tells, and the triple at which its plan falls, as [20.2] says."""
    if gap(game, test) >= 0:
        raise InvalidOperation("this test is not broken")
    return _fall_by(game, test)


def plans_paper(game):
    """A paper of a game: the plans of all orders never fall, or one of them falls at a triple."""
    tests_broken = broken(game)
    if not tests_broken:
        return ("never",)
    return ("falls",) + _fall_by(game, tests_broken[0])


def is_plans_paper(game, value):
    """Whether the value is a paper of the game."""
    check_game(game)
    if value == ("never",):
        # They never fall exactly if the game is growing [20.2].
        return is_growing(game)
    if not isinstance(value, tuple) or len(value) != 3:
        return False
    word, order, triple = value
    return word == "falls" and is_order(game, order) and triple in _falls(game, _plan_of(game, order))


def _check_factor(value):
    if not is_integer(value) or value < 1:
        raise InvalidNumber(value)


def _is_plan(game, factor, value):
    groups = [group for group in game.groups if group]
    if not isinstance(value, dict) or len(value) != len(groups):
        return False
    return all([group in value and _is_shared(group, value[group], game[group] * factor) for group in groups])


def _is_shared(group, value, total):
    """Whether the value is a tuple of one integer for each person of a group, with this sum."""
    return is_row(group, value) and sum(value) == total


def _plan_of(game, order):
    return {group: pay_within(game, order, group) for group in game.groups if group}


def _mixed(game, weights):
    return {group: _mixed_within(game, weights, group) for group in game.groups if group}


def _mixed_within(game, weights, group):
    """The mixture of what a group's persons bring in the orders."""
    # Many orders can be one and the same for a group, so their weights are put together first.
    together = {}
    for order, weight in weights:
        coming = tuple([person for person in order if person in group])
        together[coming] = together.get(coming, 0) + weight
    rows = [[share * together[coming] for share in pay_within(game, coming, group)] for coming in together]
    return tuple([sum([row[at] for row in rows]) for at in range(len(group))])


def _falls(game, plan):
    found = []
    for group in plan:
        for other in without(game.people, group):
            greater = union(group, (other,))
            shares = {person: share for person, share in zip(greater, plan[greater])}
            found = found + [
                (person, group, greater) for person, share in zip(group, plan[group]) if shares[person] < share
            ]
    return sorted(found)


def _fall_by(game, test):
    group, one, other = test
    rest = without(game.people, group + (one, other))
    return group + (other, one) + rest, (one, union(group, (one,)), union(group, (one, other)))
