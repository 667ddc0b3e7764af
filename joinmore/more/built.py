"""Built games: estates, queues, airfields, trees, savings and flows."""

from joinmore.base.games import check_game, check_people, game_of
from joinmore.base.names import is_integer
from joinmore.base.rows import is_row, sum_for, sums, worths_of
from joinmore.base.sets import groups_of, without
from joinmore.errors import InvalidNumber, InvalidOperation

_MAX_PLACE = 9
_SOURCE = 0
_SINK = 1


def estate(people, total, claims):
    """Each group has what is left of the estate when all others are paid, but at least 0."""
    check_people(people)
    if not is_integer(total) or total < 0:
        raise InvalidNumber(total)
    _check_numbers(people, claims)
    if sum(claims) < total:
        raise InvalidOperation("the claims sum to less than the estate")
    short = sum(claims) - total
    return game_of(people, [max(0, claimed - short) for claimed in sums(claims)])


def queue(people, times, urges):
    """Each group has what the pairs in its stretches save by an exchange."""
    check_people(people)
    _check_numbers(people, times)
    _check_numbers(people, urges)
    # Two persons are in one stretch of the groups that have them and all persons between, so these have the dividends.
    saved = {
        people[first:last + 1]: max(0, urges[last] * times[first] - urges[first] * times[last])
        for last in range(len(people)) for first in range(last)
    }
    return game_of(people, worths_of([saved.get(group, 0) for group in groups_of(people)]))


def airfield(people, costs):
    """Each group needs the greatest cost of its persons."""
    check_people(people)
    _check_numbers(people, costs)
    told = list(zip(people, costs))
    return game_of(people, [
        max([cost for person, cost in told if person in group], default=0) for group in groups_of(people)
    ])


def tree(people, above, costs):
    """Each group needs all links between its persons and the root, each once."""
    check_people(people)
    if not _is_tree(people, above):
        raise InvalidOperation("this is no dict by which all persons hang on the root")
    _check_numbers(people, costs)
    paths = {person: _path(above, person) for person in people}
    row = []
    for group in groups_of(people):
        linked = [person for person in people if any([person in paths[below] for below in group])]
        row.append(sum_for(people, costs, linked))
    return game_of(people, row)


def savings(game):
    """Each group has the sum of the worths of its single persons less its own worth."""
    check_game(game)
    alone = sums([game[(person,)] for person in game.people])
    return game_of(game.people, [one - worth for one, worth in zip(alone, game.row)])


def flow(people, links):
    """Each group has the most that can flow from place 0 to place 1 by its links."""
    check_people(people)
    if not _are_links(people, links):
        raise InvalidOperation("the links are no dict from all persons to two places and a number")
    groups = groups_of(people)
    numbers = sums([links[person][2] for person in people])
    carried = {group: number for group, number in zip(groups, numbers)}
    # As much can flow as the least links carry together without which nothing flows.
    dry = [group for group in groups if not _leads(links, group)]
    return game_of(people, [
        carried[group] - max([carried[part] for part in dry if not without(part, group)]) for group in groups
    ])


def _check_numbers(people, value):
    if not is_row(people, value) or not all([number >= 0 for number in value]):
        raise InvalidOperation("the numbers are no tuple of one integer of at least 0 for each person")


def _is_from_all(people, value):
    """Whether the value is a dict from all persons."""
    return isinstance(value, dict) and len(value) == len(people) and all([person in value for person in people])


def _is_tree(people, value):
    if not _is_from_all(people, value):
        return False
    if not all([value[person] is None or value[person] in people for person in people]):
        return False
    return all([len(_path(value, person)) <= len(people) for person in people])


def _path(above, person):
    """The persons whose links lead from a person to the root; one more than there are persons, if there is a ring."""
    found = []
    while person is not None and len(found) <= len(above):
        found.append(person)
        person = above[person]
    return found


def _are_links(people, value):
    return _is_from_all(people, value) and all([_is_link(value[person]) for person in people])


def _is_link(value):
    if not isinstance(value, tuple) or len(value) != 3:
        return False
    if not all([is_integer(part) and part >= 0 for part in value]):
        return False
    return value[0] != value[1] and value[0] <= _MAX_PLACE and value[1] <= _MAX_PLACE


def _leads(links, group):
    """Whether the links of a group lead from the first place to the last one."""
    reached = [_SOURCE]
    # Each round reaches a further place, or all are reached.
    for _ in group:
        reached = reached + [links[person][1] for person in group if links[person][0] in reached]
    return _SINK in reached
