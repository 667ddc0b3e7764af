"""Even shares: as even for the sizes of the persons as kept shares can be."""

from joinmore.base.games import check_game, check_person
from joinmore.base.gaps import check_growing
from joinmore.base.names import is_integer
from joinmore.base.ratios import common_multiple, fraction, made_whole
from joinmore.base.rows import is_row, sums
from joinmore.base.sets import without
from joinmore.errors import InvalidOperation
from joinmore.pay.sharings import check_sharing

_MAX_SIZE = 10 ** 6


def ladder(game, sizes):
    """The pairs (group, fraction) of the steps by which all persons come in."""
    _check_sizes(game, sizes)
    check_growing(game)
    return _ladder_of(game, sizes)


def even(game, sizes):
    """The even shares of all persons, as fractions."""
    _check_sizes(game, sizes)
    check_growing(game)
    return _even_of(game, sizes)


def even_sharing(game, sizes):
    """The least integer by which all even shares become integers, and the tuple of these."""
    return made_whole(even(game, sizes))


def is_even(game, sizes, value):
    """Whether the value is an integer of at least 1 and the even shares times this integer."""
    shares = even(game, sizes)
    if not isinstance(value, tuple) or len(value) != 2:
        return False
    many, row = value
    if not is_integer(many) or many < 1 or not is_row(game.people, row):
        return False
    return all([number * below == above * many for number, (above, below) in zip(row, shares)])


def barring(game, sizes, poorer, richer):
    """The first group of the ladder that has the richer person, if it does not have the poorer one."""
    _check_sizes(game, sizes)
    check_person(game, poorer)
    check_person(game, richer)
    check_growing(game)
    first = [group for group, _ in _ladder_of(game, sizes) if richer in group][0]
    if poorer in first:
        return None
    return first


def unevenness(game, sizes, sharing):
    """The sum of share * share / size for all persons, as a fraction."""
    _check_sizes(game, sizes)
    check_sharing(game, sharing)
    check_growing(game)
    multiple = common_multiple(sizes)
    return fraction(sum([share * share * (multiple // size) for share, size in zip(sharing, sizes)]), multiple)


def _check_sizes(game, value):
    check_game(game)
    if not is_row(game.people, value) or not all([1 <= size <= _MAX_SIZE for size in value]):
        raise InvalidOperation("the sizes are no tuple of one integer from 1 to a million for each person")


def _ladder_of(game, sizes):
    places = list(zip(game.groups, game.row, sums(sizes)))
    steps = ()
    last = places[0]
    while last[0] != game.people:
        ahead, worth_ahead, size_ahead = last
        last = _next_place(places, last)
        group, worth, size = last
        steps = steps + ((group, fraction(worth - worth_ahead, size - size_ahead)),)
    return steps


def _next_place(places, last):
    """The greatest group, with worth and size, whose further persons bring most for their size."""
    ahead, worth_ahead, size_ahead = last
    best, most, many = last, 0, 0
    for place in places:
        group, worth, size = place
        if size > size_ahead and not without(ahead, group):
            brought, more = worth - worth_ahead, size - size_ahead
            # The union of the groups that bring most brings most, too, and it has the greatest size.
            if (brought * many, more) > (most * more, many):
                best, most, many = place, brought, more
    return best


def _even_of(game, sizes):
    shares = {}
    for group, (above, below) in _ladder_of(game, sizes):
        for person, size in zip(game.people, sizes):
            if person in group and person not in shares:
                shares[person] = fraction(above * size, below)
    return tuple([shares[person] for person in game.people])
