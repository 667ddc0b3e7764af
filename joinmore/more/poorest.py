"""The poorest first: kept sharings are led to the even one by gifts from those who have more."""

from joinmore.base.games import check_game
from joinmore.base.gaps import check_growing
from joinmore.base.names import is_integer
from joinmore.more.even import even_sharing
from joinmore.more.factors import check_factor, check_times
from joinmore.pay.bounds import given, room_of
from joinmore.pay.sharings import check_kept, check_sharing


def poorest(game, factor, sharing):
    """The sums of the 1, 2, .. least shares."""
    _check_all(game, factor, (sharing,))
    return _poorest(sharing)


def is_fairer(game, factor, one, other):
    """Whether the poorest have at least as much in the first sharing, however many they are."""
    _check_all(game, factor, (one, other))
    return all([more >= told for more, told in zip(_poorest(one), _poorest(other))])


def is_levelling(game, factor, sharing, value):
    """Whether the value is a levelling gift, and the sharing behind it is kept."""
    _check_all(game, factor, (sharing,))
    return _is_gift(game, value) and _does_level(game, factor, sharing, value[0], value[1], value[2])


def levelling(game, factor, sharing):
    """A levelling gift as great as possible for its two persons, or None if there is none."""
    _check_all(game, factor, (sharing,))
    shares = _by_person(game, sharing)
    for giver in game.people:
        for getter in game.people:
            apart = (shares[giver] - shares[getter]) // 2
            if apart > 0:
                amount = min(apart, room_of(game, factor, sharing, giver, getter))
                if amount > 0:
                    return giver, getter, amount
    return None


def levelled(game, sharing):
    """The factor of the even sharing, and levelling gifts that lead the sharing times this factor to it."""
    factor, aim, spot = _ends(game, sharing)
    gifts = ()
    while spot != aim:
        told = _gift_towards(game, factor, spot, aim)
        gifts = gifts + (told,)
        spot = given(game, spot, told[0], told[1], told[2])
    return factor, gifts


def is_levelled(game, sharing, value):
    """Whether the value is the factor of the even sharing, with levelling gifts that lead to it by kept sharings."""
    factor, aim, spot = _ends(game, sharing)
    if not isinstance(value, tuple) or len(value) != 2:
        return False
    many, gifts = value
    if not is_integer(many) or many != factor or not isinstance(gifts, tuple):
        return False
    if not all([_is_gift(game, told) for told in gifts]):
        return False
    for giver, getter, amount in _runs(gifts):
        if not _does_level(game, factor, spot, giver, getter, amount):
            return False
        spot = given(game, spot, giver, getter, amount)
    return spot == aim


def _check_all(game, factor, sharings):
    check_game(game)
    check_factor(factor)
    for sharing in sharings:
        check_times(game, factor, sharing)
    check_growing(game)
    for sharing in sharings:
        check_kept(game, factor, sharing)


def _ends(game, sharing):
    """The factor of the even sharing, this sharing, and a kept sharing of the game times the factor."""
    check_sharing(game, sharing)
    check_growing(game)
    check_kept(game, 1, sharing)
    factor, aim = even_sharing(game, (1,) * len(game))
    return factor, aim, tuple([share * factor for share in sharing])


def _poorest(sharing):
    found = []
    told = 0
    for share in sorted(list(sharing)):
        told = told + share
        found.append(told)
    return tuple(found)


def _by_person(game, sharing):
    return {person: share for person, share in zip(game.people, sharing)}


def _is_gift(game, value):
    """Whether the value is a triple of two different persons and an integer of at least 1."""
    if not isinstance(value, tuple) or len(value) != 3:
        return False
    giver, getter, amount = value
    return giver in game and getter in game and giver != getter and is_integer(amount) and amount >= 1


def _does_level(game, factor, sharing, giver, getter, amount):
    """Whether a gift leaves the giver not less than the getter, and the sharing kept."""
    shares = _by_person(game, sharing)
    if shares[giver] - amount < shares[getter] + amount:
        return False
    return amount <= room_of(game, factor, sharing, giver, getter)


def _runs(gifts):
    """The gifts, those in a row between the same two persons as one: it is a levelling gift exactly if each one is."""
    found = []
    for giver, getter, amount in gifts:
        if found and found[-1][:2] == [giver, getter]:
            found[-1][2] = found[-1][2] + amount
        else:
            found.append([giver, getter, amount])
    return found


def _gift_towards(game, factor, spot, aim):
    """A levelling gift of somebody who has more than in the even sharing to somebody who has less."""
    shares, aims = _by_person(game, spot), _by_person(game, aim)
    giver = [person for person in game.people if shares[person] > aims[person]][0]
    # By [10.1] some getter could give back in the even sharing, and so has there at most as much as the giver: the gift
    # is a levelling one. With the same giver until it has its even share, few gifts are enough.
    getters = [person for person in game.people if shares[person] < aims[person] <= aims[giver]]
    limits = [
        (getter, shares[giver] - aims[giver], aims[getter] - shares[getter], room_of(game, factor, spot, giver, getter))
        for getter in getters
    ]
    return [(giver, getter, min(more, less, free)) for getter, more, less, free in limits if free > 0][0]
