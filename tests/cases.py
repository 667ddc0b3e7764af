"""Games and values that several tests use, and groups counted without the program."""

from joinmore.base.games import Game
from joinmore.errors import InvalidName, InvalidOperation, Left, MoreError, ParseError, UnknownName

PAIRS = Game(("a", "b", "c"), {("a",): 0, ("a", "b"): 2, ("a", "b", "c"): 6, ("a", "c"): 2, ("b",): 0, ("b", "c"): 2, ("c",): 0})
STEPS = Game(("a", "b", "c"), {("a",): 1, ("a", "b"): 3, ("a", "b", "c"): 9, ("a", "c"): 4, ("b",): 1, ("b", "c"): 5, ("c",): 2})
MOST = Game(("a", "b", "c"), {("a",): 0, ("a", "b"): 4, ("a", "b", "c"): 6, ("a", "c"): 4, ("b",): 0, ("b", "c"): 4, ("c",): 0})

PEOPLE = (("k",), ("a", "b"), ("a", "b", "c"), ("ann", "bob", "eve", "z"), ("a", "b", "c", "d", "e"))


def all_groups(people):
    """All groups of some persons, () too, ascending."""
    found = []
    for bits in range(2 ** len(people)):
        found.append(tuple(person for at, person in enumerate(people) if bits >> at & 1))
    return sorted(found)


def some_groups(people):
    """All groups but ()."""
    return [group for group in all_groups(people) if group]


def worths_by(people, rule):
    """The dict of the worths that a rule gives to all groups but ()."""
    return {group: rule(group) for group in some_groups(people)}


def game_by(people, rule):
    return Game(people, worths_by(people, rule))


def worths_of(game, people):
    """All worths of a game, asked for one by one."""
    return worths_by(people, lambda group: game[group])


def wild(people, seed):
    """A game of worths from -50 to 50 without any order in them."""
    def rule(group):
        told = seed
        for letter in " ".join(group):
            told = (told * 1103 + ord(letter) * 331 + 12345) % 100003
        return told % 101 - 50
    return game_by(people, rule)


def growing(people, seed):
    """A growing game: each two persons of a group bring it something together."""
    def rule(group):
        places = [people.index(person) for person in group]
        alone = sum((seed * (place + 3)) % 11 - 5 for place in places)
        pairs = sum((seed + one * other) % 4 for one in places for other in places if one < other)
        return alone + pairs + len(group) ** 2
    return game_by(people, rule)


def games():
    """Games of one to five persons, growing ones and others."""
    found = [PAIRS, STEPS, MOST]
    for people in PEOPLE:
        for seed in (1, 5, 8):
            found.append(wild(people, seed))
            found.append(growing(people, seed))
    return found


def nested(depth):
    """Tuples, one in another."""
    value = "a"
    for _ in range(depth):
        value = (value,)
    return value


def strange():
    """Values of all kinds that can be passed in the wrong place, made anew."""
    return [
        None, True, False, 0, 1, -1, 7, 10 ** 60, -10 ** 99, "", "a", "b", "abc", "A", "a b", "a\n", "x" * 4000,
        (), ("a",), ("b", "a"), ("a", "a"), ("z",), ("a", "z"), ("A",), (None,), (1,), (True, 0), (0, 0, 0),
        (["a"],), (("a",),), ({},), ("a", "b", "c", "d", "e", "f"), nested(10), ((), "a", "b"), ((("a", "b"), 1),),
        [], ["a"], ["a", "b", "c"], [[["a"]]], [("a",)], {}, {"a": 1}, {("a",): 1}, {1: {2: [3]}}, {None: ()},
        MoreError("a"), InvalidName("a"), InvalidOperation("a"), ParseError(1), UnknownName("a"), Left(("a",)),
        PAIRS, MOST, Game(("z",), {("z",): 4}), Game, MoreError,
    ]


def same(one, other):
    """Whether two values are equal and of the same kinds, down to their parts."""
    if one.__class__ is not other.__class__:
        return False
    if isinstance(one, (list, tuple)):
        return len(one) == len(other) and all(same(x, y) for x, y in zip(one, other))
    if isinstance(one, dict):
        return same(list(one.items()), list(other.items()))
    return one == other


def no_games():
    """Values that are no game."""
    return [value for value in strange() if not isinstance(value, Game)] + [PAIRS.people, [PAIRS], (PAIRS,), {"a": PAIRS}]


def no_groups(people):
    """Values that are no group of the persons, although some are near to one."""
    groups = all_groups(people)
    near = [list(people), people[0], people + ("zz",), people[:1] * 2, (people,), {person: 1 for person in people}, ""]
    near += [people[::-1]] if len(people) > 1 else []
    return [value for value in strange() if value not in groups] + near


def all_orders(people):
    """All orders of some persons, ascending."""
    if not people:
        return [()]
    found = []
    for person in people:
        rest = tuple(other for other in people if other != person)
        found += [(person,) + order for order in all_orders(rest)]
    return found


def walked(game, order):
    """The pay of an order, by a walk from nobody to all."""
    ahead, told = [], {}
    for person in order:
        before = game[tuple(sorted(ahead))]
        ahead.append(person)
        told[person] = game[tuple(sorted(ahead))] - before
    return tuple(told[person] for person in sorted(told))


def no_orders(people):
    """Values that are no order of the persons, although some are near to one."""
    near = [people[1:], people + people[:1], people[:-1] + ("zz",), list(people), people[:1] * len(people + ("a",)), (people,)]
    near += [people[:-1] + people[:1], people[:-1] + (1,), people[:-1] + (None,)] if len(people) > 1 else []
    near += ["".join(people), {person: 1 for person in people}, people[:-1] + (list(people[-1]),)]
    return [value for value in strange() if value not in all_orders(people)] + near


def sharing_of(game, seed=0):
    """Some sharing of the game."""
    head = tuple((seed * (at + 2)) % 9 - 4 for at in range(len(game) - 1))
    return head + (game[game.people] - sum(head),)


def no_sharings(game):
    """Values that are no sharing of the game, although some are near to one."""
    right = sharing_of(game, 3)
    near = [
        right[:-1] + (right[-1] + 1,), right[:-1] + (right[-1] - 1,), right[1:], right + (0,), (0,) + right, list(right),
        right[:-1] + (str(right[-1]),), right[:-1] + (None,), (right,), dict(enumerate(right)), right[:-1] + ((right[-1],),),
        right[:-1] + ([right[-1]],),
    ]
    if len(right) > 1:
        # These sum to the worth of all, but their integers are too long, or none.
        near.append((10 ** 60, game[game.people] - 10 ** 60) + (0,) * (len(right) - 2))
        near.append((-10 ** 60, game[game.people] + 10 ** 60) + (0,) * (len(right) - 2))
        near.append((True, game[game.people] - 1) + (0,) * (len(right) - 2))
        near.append((game[game.people], False) + (0,) * (len(right) - 2))
    return [value for value in strange() if value != right] + near
