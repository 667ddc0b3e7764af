"""Games and values that several tests use, and groups counted without the program."""

import re
from fractions import Fraction

from joinmore.base.games import Game
from joinmore.errors import InvalidName, InvalidOperation, Left, MoreError, ParseError, UnknownName

PAIRS = Game(("a", "b", "c"), {("a",): 0, ("a", "b"): 2, ("a", "b", "c"): 6, ("a", "c"): 2, ("b",): 0, ("b", "c"): 2, ("c",): 0})
STEPS = Game(("a", "b", "c"), {("a",): 1, ("a", "b"): 3, ("a", "b", "c"): 9, ("a", "c"): 4, ("b",): 1, ("b", "c"): 5, ("c",): 2})
MOST = Game(("a", "b", "c"), {("a",): 0, ("a", "b"): 4, ("a", "b", "c"): 6, ("a", "c"): 4, ("b",): 0, ("b", "c"): 4, ("c",): 0})

PEOPLE = (("k",), ("a", "b"), ("a", "b", "c"), ("ann", "bob", "eve", "z"), ("a", "b", "c", "d", "e"))


def all_groups(people):
    """All groups of some persons, () too, ascending."""
    found = []
    for bits in range(2 ** len(people)):
        found.append(tuple(person for at, person in enumerate(people) if bits >> at & 1))
    return sorted(found)


def some_groups(people):
    """All groups but ()."""
    return [group for group in all_groups(people) if group]


def worths_by(people, rule):
    """The dict of the worths that a rule gives to all groups but ()."""
    return {group: rule(group) for group in some_groups(people)}


def game_by(people, rule):
    return Game(people, worths_by(people, rule))


def worths_of(game, people):
    """All worths of a game, asked for one by one."""
    return worths_by(people, lambda group: game[group])


def wild(people, seed):
    """A game of worths from -50 to 50 without any order in them."""
    def rule(group):
        told = seed
        for letter in " ".join(group):
            told = (told * 1103 + ord(letter) * 331 + 12345) % 100003
        return told % 101 - 50
    return game_by(people, rule)


def growing(people, seed):
    """A growing game: each two persons of a group bring it something together."""
    def rule(group):
        places = [people.index(person) for person in group]
        alone = sum((seed * (place + 3)) % 11 - 5 for place in places)
        pairs = sum((seed + one * other) % 4 for one in places for other in places if one < other)
        return alone + pairs + len(group) ** 2
    return game_by(people, rule)


def games():
    """Games of one to five persons, growing ones and others."""
    found = [PAIRS, STEPS, MOST]
    for people in PEOPLE:
        for seed in (1, 5, 8):
            found.append(wild(people, seed))
            found.append(growing(people, seed))
    return found


def nested(depth):
    """Tuples, one in another."""
    value = "a"
    for _ in range(depth):
        value = (value,)
    return value


def strange():
    """Values of all kinds that can be passed in the wrong place, made anew."""
    return [
        None, True, False, 0, 1, -1, 7, 10 ** 60, -10 ** 99, "", "a", "b", "abc", "A", "a b", "a\n", "x" * 4000,
        (), ("a",), ("b", "a"), ("a", "a"), ("z",), ("a", "z"), ("A",), (None,), (1,), (True, 0), (0, 0, 0),
        (["a"],), (("a",),), ({},), ("a", "b", "c", "d", "e", "f"), nested(10), ((), "a", "b"), ((("a", "b"), 1),),
        [], ["a"], ["a", "b", "c"], [[["a"]]], [("a",)], {}, {"a": 1}, {("a",): 1}, {1: {2: [3]}}, {None: ()},
        MoreError("a"), InvalidName("a"), InvalidOperation("a"), ParseError(1), UnknownName("a"), Left(("a",)),
        PAIRS, MOST, Game(("z",), {("z",): 4}), Game, MoreError,
    ]


def same(one, other):
    """Whether two values are equal and of the same kinds, down to their parts."""
    if one.__class__ is not other.__class__:
        return False
    if isinstance(one, (list, tuple)):
        return len(one) == len(other) and all(same(x, y) for x, y in zip(one, other))
    if isinstance(one, dict):
        return same(list(one.items()), list(other.items()))
    return one == other


def share_by_hand(game, sharing, group):
    return sum(sharing[list(game.people).index(person)] for person in group)


def left_by_hand(game, sharing):
    """The groups that have less than they gain alone."""
    return [group for group in all_groups(game.people) if share_by_hand(game, sharing, group) < game[group]]


def tight_by_hand(game, sharing):
    """The groups that have just what they gain alone."""
    return [group for group in all_groups(game.people) if share_by_hand(game, sharing, group) == game[group]]


def room_by_hand(game, sharing, giver, getter):
    """What the giver can give to the getter before some group leaves a kept sharing."""
    groups = [group for group in all_groups(game.people) if giver in group and getter not in group]
    return min(share_by_hand(game, sharing, group) - game[group] for group in groups)


def given_by_hand(game, sharing, giver, getter, amount):
    told = dict(zip(game.people, sharing))
    told[giver] -= amount
    told[getter] += amount
    return tuple(told[person] for person in game.people)


def gap_by_hand(game, test):
    group, one, other = test
    put = [tuple(sorted(group + more)) for more in ((one, other), (), (one,), (other,))]
    return game[put[0]] + game[put[1]] - game[put[2]] - game[put[3]]


def all_tests(people):
    found = []
    for group in all_groups(people):
        rest = [person for person in people if person not in group]
        found += [(group, one, other) for at, one in enumerate(rest) for other in rest[at + 1:]]
    return found


def broken_by_hand(game):
    return [test for test in sorted(all_tests(game.people)) if gap_by_hand(game, test) < 0]


def pairs_of(people):
    """All pairs of two different persons."""
    return [(one, other) for one in people for other in people if one != other]


def estate_like(people, total, claims):
    """Each group has what is left when all others are paid, but at least 0."""
    owed = dict(zip(people, claims))
    return game_by(people, lambda group: max(0, total - sum(owed[person] for person in people if person not in group)))


def by_size(people, worths):
    """All groups of one number of persons have one worth."""
    return game_by(people, lambda group: worths[len(group)])


def by_dividends(people, seed, unit):
    """Some groups of two or more bring something each, all persons something of either sign."""
    def brought(group):
        told = sum((at + 1) * (seed + 2) * people.index(person) for at, person in enumerate(group)) + seed
        return (told % 7 - 3) * unit if len(group) == 1 else max(0, told % 5 - 2) * unit
    return game_by(people, lambda group: sum(brought(part) for part in some_groups(group)))


def high_games(people):
    """Growing games with worths near 10 ** 9 on both sides."""
    many, high = len(people), 10 ** 9
    claims = [high // 2 + 17 * at * at for at in range(many)]
    return [
        Game.additive(people, (high - 2, 1 - high, 1, 0, 0)[:many]),
        estate_like(people, min(high, sum(claims)), claims),
        estate_like(people, high // 2 + 13, [high - 7 * at for at in range(many)]),
        by_size(people, [0] + [-high] * (many - 1) + [high]),
        by_size(people, [at * at * high // (many * many) for at in range(many + 1)]),
        by_size(people, [0] + [-high + (at - 1) * (at - 2) * (high // 10 + 3) for at in range(1, many + 1)]),
    ]


def growing_games():
    """Growing games of one to five persons: additive, like estates, by size, by dividends, near 0 and near 10 ** 9."""
    found = [PAIRS, STEPS, PAIRS + STEPS, PAIRS.beside(Game(("d",), {("d",): 5})), PAIRS.beside(Game.additive(("q", "r"), (1, -2)))]
    for people in PEOPLE:
        many = len(people)
        found.append(Game.additive(people, tuple(range(-1, many - 1))))
        found.append(Game.additive(people, (0,) * many))
        found.append(estate_like(people, 2 * many + 1, [at + 3 for at in range(many)]))
        found.append(by_size(people, [at * at - 2 * at for at in range(many + 1)]))
        found.append(by_size(people, [0] * many + [5]))
        found += [growing(people, 2), growing(people, 7), by_dividends(people, 1, 1), by_dividends(people, 4, 11)]
        found += high_games(people)
    return found


def other_games():
    """Games that are not growing."""
    found = [MOST, PAIRS.turned(), STEPS.turned()]
    for people in PEOPLE[1:]:
        found += [wild(people, 1), wild(people, 5), by_size(people, [0] + [3] * len(people))]
        flat = Game.additive(people, tuple(range(len(people))))
        for group in (people[:1], people[-1:], people[1:]):
            found.append(flat.with_worth(group, flat[group] + 1))
    return [game for game in found if broken_by_hand(game)]


def some_kept(game, many=4):
    """Some kept sharings of a growing game: pays, and what lies between them by gifts."""
    orders = all_orders(game.people)
    found = []
    for at in range(many):
        sharing = walked(game, orders[at * 31 % len(orders)])
        found.append(sharing)
        for step, (giver, getter) in enumerate(pairs_of(game.people)):
            room = room_by_hand(game, sharing, giver, getter)
            if (step + at) % 3 == 0 and room > 0:
                sharing = given_by_hand(game, sharing, giver, getter, (room + step) // 2 if room > step else room)
        found.append(sharing)
    return list(dict.fromkeys(found))


def some_left(game):
    """Some sharings of a growing game that some group leaves."""
    found = []
    for sharing in some_kept(game, 2):
        for giver, getter in pairs_of(game.people)[:3]:
            room = room_by_hand(game, sharing, giver, getter)
            found.append(given_by_hand(game, sharing, giver, getter, room + 1))
            found.append(given_by_hand(game, sharing, giver, getter, room + 10 ** 30))
    return found


def forced_kept(game):
    """All kept sharings by force: each tuple from the single worths up."""
    low = [game[person,] for person in game.people]
    spare = game[game.people] - sum(low)
    begun = [()]
    for at in range(len(low) - 1):
        begun = [row + (low[at] + more,) for row in begun for more in range(spare - sum(row) + sum(low[:at]) + 1)]
    full = [row + (game[game.people] - sum(row),) for row in begun]
    return sorted(row for row in full if not left_by_hand(game, row))


def small_growing():
    """Growing games with few kept sharings."""
    found = [PAIRS, STEPS, PAIRS.beside(Game(("d",), {("d",): 5})), Game.additive(("a", "b"), (2, -1))]
    for people in PEOPLE[:4]:
        many = len(people)
        found.append(by_size(people, [at * (at - 1) // 2 for at in range(many + 1)]))
        found += [by_size(people, [0] * many + [3]), estate_like(people, many + 2, [at + 2 for at in range(many)])]
        found += [by_dividends(people, seed, 1) for seed in (1, 2, 3)]
    return found


def no_games():
    """Values that are no game."""
    return [value for value in strange() if not isinstance(value, Game)] + [PAIRS.people, [PAIRS], (PAIRS,), {"a": PAIRS}]


def no_groups(people):
    """Values that are no group of the persons, although some are near to one."""
    groups = all_groups(people)
    near = [list(people), people[0], people + ("zz",), people[:1] * 2, (people,), {person: 1 for person in people}, ""]
    near += [people[::-1]] if len(people) > 1 else []
    return [value for value in strange() if value not in groups] + near


def all_orders(people):
    """All orders of some persons, ascending."""
    if not people:
        return [()]
    found = []
    for person in people:
        rest = tuple(other for other in people if other != person)
        found += [(person,) + order for order in all_orders(rest)]
    return found


def walked(game, order):
    """The pay of an order, by a walk from nobody to all."""
    ahead, told = [], {}
    for person in order:
        before = game[tuple(sorted(ahead))]
        ahead.append(person)
        told[person] = game[tuple(sorted(ahead))] - before
    return tuple(told[person] for person in sorted(told))


def no_persons(people):
    """Values that are no person, although some are near to one."""
    near = [people, people[:1], list(people), people[0].upper(), people[0] + " ", people[0] + "zz", {people[0]: 1}]
    return [value for value in strange() if value not in people] + near


def no_amounts():
    """Values that are no integer of at least 0."""
    wrong = [-1, -10 ** 59, 10 ** 60, 10 ** 99, True, False, None, "1", "", (1,), [1], {1: 1}, (), [], {}]
    return wrong + [PAIRS, MoreError("a")]


def mixes_to(game, sharing, weights):
    """Whether weights mix to the sharing times their total, by sums of its own."""
    total = sum(weight for _, weight in weights)
    rows = [[weight * share for share in walked(game, order)] for order, weight in weights]
    return [sum(row[at] for row in rows) for at in range(len(sharing))] == [total * share for share in sharing]


def faults_of(game, sharing, weights, most):
    """What is wrong with weights of at most so many orders by which a sharing should be the mixture."""
    if weights.__class__ is not tuple or not 1 <= len(weights) <= most:
        return ["these are no weights, or too many"]
    if not all(pair.__class__ is tuple and len(pair) == 2 for pair in weights):
        return ["not all of them are pairs"]
    orders = [order for order, _ in weights]
    found = []
    if not all(order in all_orders(game.people) for order in orders) or orders != sorted(set(orders)):
        found.append("these are no orders, or do not ascend")
    if not all(weight.__class__ is int and 1 <= weight < 10 ** 60 for _, weight in weights):
        found.append("some weight is no integer of at least 1, or is too long")
    if not mixes_to(game, sharing, weights):
        found.append("they do not mix to the sharing")
    return found


def no_orders(people):
    """Values that are no order of the persons, although some are near to one."""
    near = [people[1:], people + people[:1], people[:-1] + ("zz",), list(people), people[:1] * len(people + ("a",)), (people,)]
    near += [people[:-1] + people[:1], people[:-1] + (1,), people[:-1] + (None,)] if len(people) > 1 else []
    near += ["".join(people), {person: 1 for person in people}, people[:-1] + (list(people[-1]),)]
    return [value for value in strange() if value not in all_orders(people)] + near


def sharing_of(game, seed=0):
    """Some sharing of the game."""
    head = tuple((seed * (at + 2)) % 9 - 4 for at in range(len(game) - 1))
    return head + (game[game.people] - sum(head),)


def no_sharings(game):
    """Values that are no sharing of the game, although some are near to one."""
    right = sharing_of(game, 3)
    near = [
        right[:-1] + (right[-1] + 1,), right[:-1] + (right[-1] - 1,), right[1:], right + (0,), (0,) + right, list(right),
        right[:-1] + (str(right[-1]),), right[:-1] + (None,), (right,), dict(enumerate(right)), right[:-1] + ((right[-1],),),
        right[:-1] + ([right[-1]],),
    ]
    if len(right) > 1:
        # These sum to the worth of all, but their integers are too long, or none.
        near.append((10 ** 60, game[game.people] - 10 ** 60) + (0,) * (len(right) - 2))
        near.append((-10 ** 60, game[game.people] + 10 ** 60) + (0,) * (len(right) - 2))
        near.append((True, game[game.people] - 1) + (0,) * (len(right) - 2))
        near.append((game[game.people], False) + (0,) * (len(right) - 2))
    return [value for value in strange() if value != right] + near


def is_row_by_hand(value, many, least=None):
    """Whether the value is a tuple of so many integers, none of them below the least one."""
    if value.__class__ is not tuple or len(value) != many:
        return False
    if not all(part.__class__ is int and -10 ** 60 < part < 10 ** 60 for part in value):
        return False
    return least is None or all(part >= least for part in value)


def no_people():
    """Values that are no set of one to five names."""
    def is_people(value):
        if value.__class__ is not tuple or not 1 <= len(value) <= 5:
            return False
        if not all(part.__class__ is str and re.fullmatch("[a-z]{1,8}", part) for part in value):
            return False
        return list(value) == sorted(set(value))
    near = [["a", "b"], {"a": 1}, ("b", "a"), ("a", "b", "c", "d", "e", "f"), ("a", "abcdefghi"), ("a", ""), ("a", 1), "ab", ("a", "B")]
    return [value for value in strange() + near if not is_people(value)]


def no_rows(many, least=None):
    """Values that are no tuple of so many integers, although some are near to one."""
    right = tuple(range(1, many + 1))
    near = [list(right), right + (1,), right[1:], (right,), right[:-1] + (None,), right[:-1] + ("1",), right[:-1] + (True,)]
    near += [right[:-1] + (10 ** 60,), right[:-1] + (-10 ** 60,), right[:-1] + ((1,),), right[:-1] + ([1],), dict(enumerate(right)), many]
    near += [right[:-1] + (-1,), (-1,) + right[1:], (-10 ** 59,) * many, (False,) * many]
    return [value for value in strange() + near if not is_row_by_hand(value, many, least)]


def fair_by_hand(game):
    """The fair shares, by the pays of all orders."""
    told = [walked(game, order) for order in all_orders(game.people)]
    return [Fraction(sum(row[at] for row in told), len(told)) for at in range(len(game.people))]


def dividends_by_hand(game):
    """The dividends of all groups but (), the least groups first."""
    found = {}
    for group in sorted(some_groups(game.people), key=len):
        found[group] = game[group] - sum(found[part] for part in found if set(part) < set(group))
    return found


def no_factors(most=None):
    """Values that are no integer from 1 to the greatest factor, or of any size."""
    wrong = [0, -1, -7, True, False, None, "1", "", (1,), [1], {1: 1}, (), [], {}, 10 ** 60, 10 ** 99, -10 ** 60, PAIRS, MoreError("a")]
    return wrong + ([most + 1, 10 * most, 10 ** 60 - 1] if most else [])
