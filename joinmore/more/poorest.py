"""The poorest first: kept sharings are led to the even one by gifts from those who have more."""

from joinmore.base.games import check_game
from joinmore.base.gaps import check_growing
from joinmore.base.names import is_integer
from joinmore.more.even import even_sharing
from joinmore.more.factors import check_factor, check_times
from joinmore.pay.bounds import given, room_of
from joinmore.pay.sharings import check_kept, check_sharing


def poorest(game, factor, sharing):
    """The sums of the 1, 2, .. least shares."""
    _check_all(game, factor, (sharing,))
    return _poorest(sharing)


def is_fairer(game, factor, one, other):
    """Whether the poorest have at least as much in the first sharing, however many they are."""
    _check_all(game, factor, (one, other))
    return all([more >= told for more, told in zip(_poorest(one), _poorest(other))])


def is_levelling(game, factor, sharing, value):
    """Whether the value is a levelling gift, and the sharing behind it is kept."""
    _check_all(game, factor, (sharing,))
    return _is_levelling(game, factor, sharing, value)


def levelling(game, factor, sharing):
    """A levelling gift as great as possible for its two persons, or None if there is none."""
    _check_all(game, factor, (sharing,))
    shares = _by_person(game, sharing)
    for giver in game.people:
        for getter in game.people:
            apart = (shares[giver] - shares[getter]) // 2
            if apart > 0:
                amount = min(apart, room_of(game, factor, sharing, giver, getter))
                if amount > 0:
                    return giver, getter, amount
    return None


def levelled(game, sharing):
    """The factor of the even sharing, and levelling gifts that lead the sharing times this factor to it."""
    factor, aim, spot = _ends(game, sharing)
    gifts = ()
    while spot != aim:
        told = _gift_towards(game, factor, spot, aim)
        gifts = gifts + (told,)
        spot = given(game, spot, told[0], told[1], told[2])
    return factor, gifts


def is_levelled(game, sharing, value):
    """Whether the value is the factor of the even sharing, with levelling gifts that lead to it by kept sharings."""
    factor, aim, spot = _ends(game, sharing)
    if not isinstance(value, tuple) or len(value) != 2:
        return False
    many, gifts = value
    if not is_integer(many) or many != factor or not isinstance(gifts, tuple):
        return False
    for told in gifts:
        if not _is_levelling(game, factor, spot, told):
            return False
        spot = given(game, spot, told[0], told[1], told[2])
    return spot == aim


def _check_all(game, factor, sharings):
    check_game(game)
    check_factor(factor)
    for sharing in sharings:
        check_times(game, factor, sharing)
    check_growing(game)
    for sharing in sharings:
        check_kept(game, factor, sharing)


def _ends(game, sharing):
    """The factor of the even sharing, this sharing, and a kept sharing of the game times the factor."""
    check_sharing(game, sharing)
    check_growing(game)
    check_kept(game, 1, sharing)
    factor, aim = even_sharing(game, (1,) * len(game))
    return factor, aim, tuple([share * factor for share in sharing])


def _poorest(sharing):
    found = []
    told = 0
    for share in sorted(list(sharing)):
        told = told + share
        found.append(told)
    return tuple(found)


def _by_person(game, sharing):
    return {person: share for person, share in zip(game.people, sharing)}


def _is_levelling(game, factor, sharing, value):
    if not isinstance(value, tuple) or len(value) != 3:
        return False
    giver, getter, amount = value
    if giver not in game or getter not in game or giver == getter or not is_integer(amount) or amount < 1:
        return False
    shares = _by_person(game, sharing)
    if shares[giver] - amount < shares[getter] + amount:
        return False
    return amount <= room_of(game, factor, sharing, giver, getter)


def _gift_towards(game, factor, spot, aim):
    """A levelling gift of somebody who has more than in the even sharing to somebody who has less."""
    shares, aims = _by_person(game, spot), _by_person(game, aim)
    giver = [person for person in game.people if shares[person] > aims[person]][0]
    # By [10.1] such a getter could give back in the even sharing, and so has there at most as much as the giver: the
    # gift is a levelling one. With the same giver until it has its even share, few gifts are enough.
    for getter in game.people:
        if shares[getter] < aims[getter] <= aims[giver]:
            most = min(shares[giver] - aims[giver], aims[getter] - shares[getter])
            amount = min(most, room_of(game, factor, spot, giver, getter))
            if amount > 0:
                return giver, getter, amount
    return None
