"""Calls with wrong arguments: each one wrong in turn, and each two at once, of which the first one decides."""

from joinmore.errors import InvalidGame, InvalidNumber, InvalidOperation, InvalidSharing, Left, NotGrowing, UnknownName
from tests.cases import (
    all_tests, broken_by_hand, left_by_hand, no_amounts, no_games, no_groups, no_orders, no_persons, no_sharings, same, strange,
)


def no_tests(people):
    near = [((), people[0], people[0]), ((), people[-1], people[0]), ((people[0],), people[0], people[-1]), ((),), people]
    return [value for value in strange() + near if value not in all_tests(people)]


# For each kind of argument: the values that are wrong beside a game, the error, and whether the error keeps the value.
KINDS = {
    "game": (lambda game: no_games(), InvalidGame, None),
    "sharing": (no_sharings, InvalidSharing, None),
    "group": (lambda game: no_groups(game.people), InvalidOperation, None),
    "some": (lambda game: no_groups(game.people) + [()], InvalidOperation, None),
    "order": (lambda game: no_orders(game.people), InvalidOperation, None),
    "test": (lambda game: no_tests(game.people), InvalidOperation, None),
    "person": (lambda game: no_persons(game.people), UnknownName, "name"),
    "amount": (lambda game: no_amounts(), InvalidNumber, "value"),
}


def raised(call, *args):
    """The error that the call raises, or None."""
    try:
        call(*args)
    except (ValueError, LookupError, ArithmeticError) as error:
        return error
    return None


def refused(case, call, args, kinds, more=None):
    """Hold that each wrong argument is refused, ahead of each later one, and that no argument is changed."""
    told = dict(KINDS, **(more or {}))
    game = args[0]
    names = kinds.split()
    for at, name in enumerate(names):
        if name not in told:
            continue
        values, error, kept = told[name]
        later = [None] + [place for place in range(at + 1, len(names)) if names[place] in told]
        for value in values(game):
            for place in later:
                put = list(args)
                put[at] = value
                if place is not None:
                    put[place] = told[names[place]][0](game)[at % 3]
                before = repr(put)
                found = raised(call, *put)
                case.assertIs(found.__class__, error, (call.__name__, put))
                if kept:
                    case.assertTrue(same(getattr(found, kept), value), (call.__name__, put))
                case.assertEqual(repr(put), before)


def not_growing(case, call, *args, game=None):
    """Hold that a game that should be growing (the first one, unless told) is refused with its first broken test."""
    found = raised(call, *args)
    case.assertIs(found.__class__, NotGrowing, (call.__name__, args))
    case.assertEqual(found.test, broken_by_hand(game or args[0])[0])


def left(case, sharing, call, *args):
    """Hold that a sharing that should be kept is refused with the first group that leaves it."""
    found = raised(call, *args)
    case.assertIs(found.__class__, Left, (call.__name__, args))
    case.assertEqual(found.group, left_by_hand(args[0], sharing)[0])


def unchanged(case, call, *args):
    """Hold that a call tells the same twice and changes no argument; what it tells."""
    before = repr(args)
    told = call(*args)
    case.assertTrue(same(call(*args), told), (call.__name__, args))
    case.assertEqual(repr(args), before)
    return told
