"""Games and values that several tests use, and groups counted without the program."""

from joinmore.base.games import Game
from joinmore.errors import InvalidName, InvalidOperation, Left, MoreError, ParseError, UnknownName

PAIRS = Game(("a", "b", "c"), {("a",): 0, ("a", "b"): 2, ("a", "b", "c"): 6, ("a", "c"): 2, ("b",): 0, ("b", "c"): 2, ("c",): 0})
STEPS = Game(("a", "b", "c"), {("a",): 1, ("a", "b"): 3, ("a", "b", "c"): 9, ("a", "c"): 4, ("b",): 1, ("b", "c"): 5, ("c",): 2})
MOST = Game(("a", "b", "c"), {("a",): 0, ("a", "b"): 4, ("a", "b", "c"): 6, ("a", "c"): 4, ("b",): 0, ("b", "c"): 4, ("c",): 0})

PEOPLE = (("k",), ("a", "b"), ("a", "b", "c"), ("ann", "bob", "eve", "z"), ("a", "b", "c", "d", "e"))


def all_groups(people):
    """All groups of some persons, () too, ascending."""
    found = []
    for bits in range(2 ** len(people)):
        found.append(tuple(person for at, person in enumerate(people) if bits >> at & 1))
    return sorted(found)


def some_groups(people):
    """All groups but ()."""
    return [group for group in all_groups(people) if group]


def worths_by(people, rule):
    """The dict of the worths that a rule gives to all groups but ()."""
    return {group: rule(group) for group in some_groups(people)}


def game_by(people, rule):
    return Game(people, worths_by(people, rule))


def worths_of(game, people):
    """All worths of a game, asked for one by one."""
    return worths_by(people, lambda group: game[group])


def wild(people, seed):
    """A game of worths from -50 to 50 without any order in them."""
    def rule(group):
        told = seed
        for letter in " ".join(group):
            told = (told * 1103 + ord(letter) * 331 + 12345) % 100003
        return told % 101 - 50
    return game_by(people, rule)


def growing(people, seed):
    """A growing game: each two persons of a group bring it something together."""
    def rule(group):
        places = [people.index(person) for person in group]
        alone = sum((seed * (place + 3)) % 11 - 5 for place in places)
        pairs = sum((seed + one * other) % 4 for one in places for other in places if one < other)
        return alone + pairs + len(group) ** 2
    return game_by(people, rule)


def games():
    """Games of one to five persons, growing ones and others."""
    found = [PAIRS, STEPS, MOST]
    for people in PEOPLE:
        for seed in (1, 5, 8):
            found.append(wild(people, seed))
            found.append(growing(people, seed))
    return found


def nested(depth):
    """Tuples, one in another."""
    value = "a"
    for _ in range(depth):
        value = (value,)
    return value


def strange():
    """Values of all kinds that can be passed in the wrong place, made anew."""
    return [
        None, True, False, 0, 1, -1, 7, 10 ** 60, -10 ** 99, "", "a", "b", "abc", "A", "a b", "a\n", "x" * 4000,
        (), ("a",), ("b", "a"), ("a", "a"), ("z",), ("a", "z"), ("A",), (None,), (1,), (True, 0), (0, 0, 0),
        (["a"],), (("a",),), ({},), ("a", "b", "c", "d", "e", "f"), nested(10), ((), "a", "b"), ((("a", "b"), 1),),
        [], ["a"], ["a", "b", "c"], [[["a"]]], [("a",)], {}, {"a": 1}, {("a",): 1}, {1: {2: [3]}}, {None: ()},
        MoreError("a"), InvalidName("a"), InvalidOperation("a"), ParseError(1), UnknownName("a"), Left(("a",)),
        PAIRS, MOST, Game(("z",), {("z",): 4}), Game, MoreError,
    ]


def same(one, other):
    """Whether two values are equal and of the same kinds, down to their parts."""
    if one.__class__ is not other.__class__:
        return False
    if isinstance(one, (list, tuple)):
        return len(one) == len(other) and all(same(x, y) for x, y in zip(one, other))
    if isinstance(one, dict):
        return same(list(one.items()), list(other.items()))
    return one == other
