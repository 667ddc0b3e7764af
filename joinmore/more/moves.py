"""Moves: one person gives 1 to another one, from kept sharing to kept sharing."""

from joinmore.base.games import check_game, check_person
from joinmore.base.gaps import check_growing
from joinmore.errors import InvalidOperation, TooMany
from joinmore.more.spans import all_kept
from joinmore.pay.bounds import check_two, given, room_of, tight_of
from joinmore.pay.sharings import check_kept, check_sharing

MAX_KEPT = 2000


def moves(game, sharing):
    """The moves that lead the sharing to kept ones, ascending."""
    check_sharing(game, sharing)
    _check_all_kept(game, (sharing,))
    tight = tight_of(game, 1, sharing)
    pairs = [(giver, getter) for giver in game.people for getter in game.people if giver != getter]
    return tuple([move for move in pairs if _is_free(tight, move)])


def moved(game, sharing, giver, getter):
    """The kept sharing behind a move."""
    check_sharing(game, sharing)
    check_two(game, giver, getter)
    _check_all_kept(game, (sharing,))
    if not _is_free(tight_of(game, 1, sharing), (giver, getter)):
        raise InvalidOperation("some group would leave behind this move")
    return given(game, sharing, giver, getter, 1)


def distance(game, one, other):
    """Half the sum of the differences of the shares of all persons."""
    _check_both(game, one, other)
    _check_all_kept(game, (one, other))
    return _distance_of(one, other)


def getter_for(game, one, other, giver):
    """A person to whom the giver can give 1 in the first sharing, and who can give it in the other one."""
    _check_both(game, one, other)
    check_person(game, giver)
    _check_all_kept(game, (one, other))
    if giver not in _with_more(game, one, other):
        raise InvalidOperation("the giver does not have more in the first sharing")
    here, there = tight_of(game, 1, one), tight_of(game, 1, other)
    getters = _with_more(game, other, one)
    # There is such a getter [10.1].
    return [getter for getter in getters if _is_free(here, (giver, getter)) and _is_free(there, (getter, giver))][0]


def way(game, one, other):
    """Moves that lead the first sharing to the other one, as many as the distance."""
    _check_both(game, one, other)
    _check_all_kept(game, (one, other))
    found, spot = (), one
    while spot != other:
        giver, getter = _next_move(game, spot, other)
        # The same move is done as often as it leads on, for the distance may be great.
        many = _most_for(game, spot, other, giver, getter)
        found = found + ((giver, getter),) * many
        spot = given(game, spot, giver, getter, many)
    return found


def is_way(game, one, other, value):
    """Whether the value is moves that lead the first sharing to the other one, as many as the distance."""
    _check_both(game, one, other)
    _check_all_kept(game, (one, other))
    if not isinstance(value, tuple) or len(value) != _distance_of(one, other):
        return False
    spot = one
    for move, many in _runs(value):
        if not _is_move(game, move) or room_of(game, 1, spot, move[0], move[1]) < many:
            return False
        spot = given(game, spot, move[0], move[1], many)
    return spot == other


def kept_sharings(game):
    """All kept sharings, ascending."""
    check_game(game)
    check_growing(game)
    found = all_kept(game.row, MAX_KEPT)
    if found is None:
        raise TooMany(MAX_KEPT)
    return found


def _check_both(game, one, other):
    check_sharing(game, one)
    check_sharing(game, other)


def _check_all_kept(game, sharings):
    check_growing(game)
    for sharing in sharings:
        check_kept(game, 1, sharing)


def _is_move(game, value):
    if not isinstance(value, tuple) or len(value) != 2:
        return False
    return value[0] in game and value[1] in game and value[0] != value[1]


def _is_free(tight, move):
    """Whether no tight group would lose by the move."""
    giver, getter = move
    return not any([giver in group and getter not in group for group in tight])


def _distance_of(one, other):
    return sum([abs(share - aim) for share, aim in zip(one, other)]) // 2


def _with_more(game, one, other):
    """The persons who have more in the first sharing."""
    return [person for person, share, aim in zip(game.people, one, other) if share > aim]


def _next_move(game, spot, other):
    """A move that leads to a kept sharing nearer to the other one."""
    tight = tight_of(game, 1, spot)
    givers, getters = _with_more(game, spot, other), _with_more(game, other, spot)
    return [(givers[0], getter) for getter in getters if _is_free(tight, (givers[0], getter))][0]


def _most_for(game, spot, other, giver, getter):
    """How often a move leads nearer to the other sharing by kept ones."""
    apart = {person: abs(share - aim) for person, share, aim in zip(game.people, spot, other)}
    return min(apart[giver], apart[getter], room_of(game, 1, spot, giver, getter))


def _runs(values):
    """Each value that differs from the one before it, and how often it stands there in a row."""
    found = []
    for value in values:
        if found and found[-1][0] == value:
            found[-1][1] = found[-1][1] + 1
        else:
            found.append([value, 1])
    return found
