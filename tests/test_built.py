"""[0.4], [0.7], [1.3], stage 15: estates, queues, airfields, trees, savings and flows."""

import itertools
import random
import unittest

from joinmore.base.games import Game
from joinmore.errors import InvalidGame, InvalidNumber, InvalidOperation
from joinmore.more.built import airfield, estate, flow, queue, savings, tree
from tests.cases import (
    MOST, PAIRS, PEOPLE, broken_by_hand, game_by, games, gap_by_hand, all_tests, growing_games, no_amounts, no_people, no_rows, other_games,
    some_groups, strange, wild,
)
from tests.refusals import raised, refused, unchanged

HIGH = 10 ** 9
LONG = 10 ** 60 - 1


def rows(many, top, count, seed):
    """Some rows of integers from 0 to the top, all of them where they are few."""
    if (top + 1) ** many <= count:
        return list(itertools.product(range(top + 1), repeat=many))
    source = random.Random(seed)
    return [tuple(source.randint(0, top) for _ in range(many)) for _ in range(count)]


def is_shrinking_by_hand(game):
    return all(gap_by_hand(game, test) <= 0 for test in all_tests(game.people))


KINDS = {
    "people": (lambda people: no_people(), InvalidGame, None),
    "numbers": (lambda people: no_rows(len(people), 0), InvalidOperation, None),
    "amount": (lambda people: no_amounts(), InvalidNumber, "value"),
}


class Estates(unittest.TestCase):
    def by_hand(self, people, total, claims):
        owed = dict(zip(people, claims))
        return game_by(people, lambda group: max(0, total - sum(owed[person] for person in people if person not in group)))

    def test_all_groups(self):
        for people in PEOPLE:
            for claims in rows(len(people), 4, 40, 1):
                for total in {0, sum(claims), sum(claims) // 2, max(claims), sum(claims) // 3}:
                    game = unchanged(self, estate, people, total, claims)
                    self.assertEqual(game, self.by_hand(people, total, claims))
                    self.assertEqual(game[people], total)
                    self.assertEqual(broken_by_hand(game), [])
                self.assertIs(raised(estate, people, sum(claims) + 1, claims).__class__, InvalidOperation)

    def test_bounds(self):
        self.assertEqual(estate(("a", "b"), HIGH, (LONG, 5)), self.by_hand(("a", "b"), HIGH, (LONG, 5)))
        self.assertEqual(estate(("a", "b"), HIGH, (LONG, 5))["a",], HIGH - 5)
        self.assertIs(raised(estate, ("a", "b"), HIGH + 1, (LONG, LONG)).__class__, InvalidGame)
        self.assertIs(raised(estate, ("k",), LONG, (LONG,)).__class__, InvalidGame)
        # That the claims are too small is told ahead of InvalidGame.
        self.assertIs(raised(estate, ("a", "b"), HIGH + 9, (HIGH, 8)).__class__, InvalidOperation)
        self.assertIs(raised(estate, ("a", "b"), LONG, (1, 1)).__class__, InvalidOperation)
        self.assertEqual(estate(("a", "b"), 0, (0, 0)), Game.additive(("a", "b"), (0, 0)))

    def test_errors(self):
        for people in PEOPLE:
            refused(self, estate, (people, 0, (1,) * len(people)), "people amount numbers", KINDS)


class Queues(unittest.TestCase):
    def by_hand(self, people, times, urges):
        def stretches(group):
            found = [[]]
            for place, person in enumerate(people):
                if person in group:
                    found[-1].append(place)
                else:
                    found.append([])
            return found

        def saved(group):
            total = 0
            for stretch in stretches(group):
                for one, other in itertools.combinations(stretch, 2):
                    total += max(0, urges[other] * times[one] - urges[one] * times[other])
            return total
        return game_by(people, saved)

    def test_all_groups(self):
        for people in PEOPLE:
            for times in rows(len(people), 3, 16, 2):
                for urges in rows(len(people), 3, 16, 3):
                    game = unchanged(self, queue, people, times, urges)
                    self.assertEqual(game, self.by_hand(people, times, urges))
                    self.assertEqual(broken_by_hand(game), [])

    def test_stretches(self):
        game = queue(("a", "b", "c"), (1, 1, 1), (1, 2, 4))
        self.assertEqual([game[group] for group in (("a", "b"), ("b", "c"), ("a", "c"), ("a", "b", "c"), ("b",))], [1, 2, 0, 6, 0])
        self.assertEqual(queue(("a", "b"), (1, 2), (3, 1)), Game.additive(("a", "b"), (0, 0)))

    def test_bounds(self):
        self.assertEqual(queue(("a", "b"), (HIGH, 0), (0, 1))["a", "b"], HIGH)
        self.assertIs(raised(queue, ("a", "b"), (HIGH + 1, 0), (0, 1)).__class__, InvalidGame)
        self.assertIs(raised(queue, ("a", "b"), (LONG, 0), (0, LONG)).__class__, InvalidGame)
        self.assertEqual(queue(("a", "b"), (LONG, LONG), (LONG, LONG))["a", "b"], 0)
        self.assertEqual(queue(("a", "b"), (LONG, LONG), (LONG, 3))["a", "b"], 0)
        self.assertEqual(queue(("k",), (LONG,), (LONG,))["k",], 0)

    def test_errors(self):
        for people in PEOPLE:
            row = (1,) * len(people)
            refused(self, queue, (people, row, row), "people numbers numbers", KINDS)


class Airfields(unittest.TestCase):
    def test_all_groups(self):
        for people in PEOPLE:
            for costs in rows(len(people), 4, 60, 4):
                game = unchanged(self, airfield, people, costs)
                needs = dict(zip(people, costs))
                self.assertEqual(game, game_by(people, lambda group: max(needs[person] for person in group)))
                self.assertTrue(is_shrinking_by_hand(game))

    def test_bounds(self):
        self.assertEqual(airfield(("a", "b"), (HIGH, HIGH))["a", "b"], HIGH)
        self.assertEqual(airfield(("a", "b"), (HIGH, 0))[()], 0)
        for cost in (HIGH + 1, LONG):
            self.assertIs(raised(airfield, ("a", "b"), (0, cost)).__class__, InvalidGame)

    def test_errors(self):
        for people in PEOPLE:
            refused(self, airfield, (people, (1,) * len(people)), "people numbers", KINDS)


def hangings(people):
    """All dicts from the persons to persons or None."""
    return [dict(zip(people, row)) for row in itertools.product(people + (None,), repeat=len(people))]


def has_ring(people, above):
    for person in people:
        seen = []
        while person is not None:
            if person in seen:
                return True
            seen.append(person)
            person = above[person]
    return False


def no_trees(people):
    """Values that are no dict by which all persons hang on the root."""
    right = {person: None for person in people}
    near = [
        {}, {people[0]: None, "zz": None}, dict(right, zz=None), dict(right, **{people[0]: "zz"}), dict(right, **{people[0]: True}),
        dict(right, **{people[-1]: people[-1]}), dict(right, **{people[0]: ()}), dict(right, **{people[0]: people[:1]}), list(right), people,
        dict(right, **{people[0]: [people[0]]}), dict(right, **{people[0]: 0}), {person: people[0] for person in people}, (), None,
        {at: None for at, _ in enumerate(people)}, {people: None}, dict(right, **{people[-1]: "root"}), dict(right, **{people[0]: ""}),
    ]
    if len(people) > 1:
        near += [{person: None for person in people[1:]}, {person: None for person in people[:-1]}]
        near += [dict(right, **{people[0]: people[1], people[1]: people[0]}), dict(zip(people, people[1:] + people[:1]))]
    return [value for value in strange() if value != right] + near


class Trees(unittest.TestCase):
    def by_hand(self, people, above, costs):
        cost = dict(zip(people, costs))

        def needed(group):
            links = set()
            for person in group:
                while person is not None:
                    links.add(person)
                    person = above[person]
            return sum(cost[link] for link in links)
        return game_by(people, needed)

    def test_all_ways_to_hang(self):
        seen = set()
        for people in PEOPLE:
            told = hangings(people)
            for at, above in enumerate(told if len(told) < 700 else told[::23]):
                costs = tuple((at * (place + 3) + place) % 7 for place in range(len(people)))
                ring = has_ring(people, above)
                seen.add((len(people), ring))
                if ring:
                    self.assertIs(raised(tree, people, above, costs).__class__, InvalidOperation)
                else:
                    game = unchanged(self, tree, people, above, costs)
                    self.assertEqual(game, self.by_hand(people, above, costs))
                    self.assertTrue(is_shrinking_by_hand(game))
        self.assertEqual(len(seen), 10)

    def test_savings_are_growing(self):
        for above in hangings(("a", "b", "c")):
            if not has_ring(("a", "b", "c"), above):
                self.assertEqual(broken_by_hand(savings(tree(("a", "b", "c"), above, (2, 5, 3)))), [])

    def test_bounds(self):
        long = {"a": None, "b": "a", "c": "b"}
        self.assertEqual(tree(("a", "b", "c"), long, (HIGH - 2, 1, 1))["c",], HIGH)
        for costs in ((HIGH - 1, 1, 1), (LONG, LONG, LONG), (0, 0, HIGH + 1)):
            self.assertIs(raised(tree, ("a", "b", "c"), long, costs).__class__, InvalidGame)

    def test_what_it_was_made_of(self):
        above = {"a": None, "b": "a"}
        game = tree(("a", "b"), above, (1, 2))
        above["b"] = None
        self.assertEqual(game["b",], 3)

    def test_errors(self):
        for people in PEOPLE:
            more = dict(KINDS, above=(no_trees, InvalidOperation, None))
            refused(self, tree, (people, {person: None for person in people}, (1,) * len(people)), "people above numbers", more)


class Savings(unittest.TestCase):
    def test_all_groups(self):
        for game in games() + growing_games() + other_games():
            if max(abs(worth) for worth in self.by_hand(game).values()) > HIGH:
                self.assertIs(raised(savings, game).__class__, InvalidGame)
                continue
            told = unchanged(self, savings, game)
            self.assertEqual(told, Game(game.people, self.by_hand(game)))
            if is_shrinking_by_hand(game):
                self.assertEqual(broken_by_hand(told), [])

    def by_hand(self, game):
        return {group: sum(game[person,] for person in group) - game[group] for group in some_groups(game.people)}

    def test_those_of_shrinking_games_are_growing(self):
        many = 0
        for people in PEOPLE:
            for costs in rows(len(people), 5, 30, 6):
                self.assertEqual(broken_by_hand(savings(airfield(people, costs))), [])
            for game in growing_games():
                if game.people == people and abs(game[people]) < 10 ** 8 and max(game.row) - min(game.row) < 10 ** 8:
                    self.assertEqual(broken_by_hand(savings(game.turned())), [])
                    many += 1
        self.assertTrue(many > 20)

    def test_bounds(self):
        self.assertEqual(savings(Game(("a", "b"), {("a",): HIGH, ("a", "b"): HIGH, ("b",): HIGH}))["a", "b"], HIGH)
        self.assertIs(raised(savings, Game(("a", "b"), {("a",): HIGH, ("a", "b"): HIGH - 1, ("b",): HIGH})).__class__, InvalidGame)
        self.assertIs(raised(savings, Game(("a", "b"), {("a",): -HIGH, ("a", "b"): 1, ("b",): 0})).__class__, InvalidGame)
        self.assertEqual(savings(Game(("k",), {("k",): HIGH}))["k",], 0)

    def test_errors(self):
        for game in (PAIRS, MOST, wild(("k",), 3)):
            refused(self, savings, (game,), "game")


def most_by_hand(pipes):
    """The most that can flow from place 0 to place 1: paths are filled until none is left."""
    room = {}
    for start, end, number in pipes:
        room[start, end] = room.get((start, end), 0) + number
        room.setdefault((end, start), 0)
    total = 0
    while True:
        came = {0: None}
        queue_of = [0]
        for place in queue_of:
            for start, end in room:
                if start == place and end not in came and room[start, end] > 0:
                    came[end] = place
                    queue_of.append(end)
        if 1 not in came:
            return total
        path, place = [], 1
        while came[place] is not None:
            path.append((came[place], place))
            place = came[place]
        much = min(room[step] for step in path)
        for start, end in path:
            room[start, end] -= much
            room[end, start] += much
        total += much


def no_links(people):
    """Values that are no dict from all persons to two different places and a number."""
    right = {person: (0, 1, 1) for person in people}
    wrong = [
        (0, 0, 1), (1, 1, 0), (0, 10, 1), (10, 1, 1), (-1, 1, 1), (0, -1, 1), (0, 1, -1), (0, 1, 10 ** 60), (0, 1), (0, 1, 1, 1), [0, 1, 1], None,
        (0, True, 1), (False, 1, 1), (0, 1, True), (0, 1, False), (0, 1, None), ("0", 1, 1), (0, "1", 1), (0, 1, "1"), ((0, 1), 1), (), {},
        (0, 1, (1,)), ([0], 1, 1), (None, 1, 1), (0, 1, -10 ** 59), 7, "abc", PAIRS, (10 ** 59, 1, 1),
    ]
    near = [dict(right, **{person: value}) for person in (people[0], people[-1]) for value in wrong]
    near += [{}, dict(right, zz=(0, 1, 1)), {person: right[person] for person in people[1:]}, list(right.items()), people, dict(right, zz=None)]
    near += [{at: (0, 1, 1) for at, _ in enumerate(people)}, {people: (0, 1, 1)}, (0, 1, 1), tuple(right.values())]
    return [value for value in strange() + near if value != right]


class Flows(unittest.TestCase):
    def check(self, people, links):
        game = unchanged(self, flow, people, links)
        self.assertEqual(game, game_by(people, lambda group: most_by_hand([links[person] for person in group])))
        return game

    def test_all_small_ones(self):
        pairs = [pair for pair in itertools.product(range(4), repeat=2) if pair[0] != pair[1]]
        for first in pairs:
            for second in pairs:
                self.check(("a", "b"), {"a": first + (2,), "b": second + (3,)})
                self.check(("a", "b", "c"), {"a": first + (2,), "b": second + (3,), "c": (2, 1, 4)})

    def test_many(self):
        source = random.Random(12)
        flowing, growing = 0, set()
        for people in PEOPLE:
            for places in (3, 4, 5, 10):
                for _ in range(60):
                    links = {}
                    for person in people:
                        start, end = source.sample(range(places), 2)
                        links[person] = (start, end, source.choice((0, 1, 2, 5, 9, HIGH // 5)))
                    game = self.check(people, links)
                    flowing += game[people] > 0
                    growing.add(broken_by_hand(game) == [])
        self.assertTrue(flowing > 200)
        self.assertEqual(growing, {True, False})

    def test_shapes(self):
        people = PEOPLE[-1]
        told = (
            ([(0, 2, 5), (2, 3, 4), (3, 4, 3), (4, 5, 9), (5, 1, 7)], 3),
            ([(0, 2, 5), (0, 3, 5), (2, 3, 1), (2, 1, 4), (3, 1, 6)], 10),
            ([(0, 2, 3), (0, 3, 2), (3, 2, 2), (2, 1, 4), (2, 1, 9)], 5),
            ([(0, 1, 1), (0, 1, 2), (0, 1, 3), (0, 1, 4), (0, 1, 5)], 15),
            ([(1, 0, 9), (2, 0, 9), (1, 2, 9), (1, 3, 9), (3, 0, 9)], 0),
            ([(0, 2, 9), (2, 0, 9), (2, 3, 9), (3, 2, 9), (3, 1, 4)], 4),
            ([(0, 9, 9), (9, 8, 8), (8, 7, 7), (7, 6, 6), (6, 1, 5)], 5),
            ([(0, 2, 0), (2, 1, 9), (0, 3, 4), (3, 1, 0), (0, 1, 0)], 0),
            ([(2, 1, 1), (3, 2, 1), (4, 3, 1), (5, 4, 1), (0, 5, 1)], 1),
        )
        for pipes, most in told:
            for order in itertools.permutations(pipes):
                self.assertEqual(flow(people, dict(zip(people, order)))[people], most)
            self.check(people, dict(zip(people, pipes)))

    def test_bounds(self):
        self.assertEqual(flow(("a", "b"), {"a": (0, 2, LONG), "b": (2, 1, HIGH)})["a", "b"], HIGH)
        self.assertEqual(flow(("a", "b"), {"a": (0, 2, LONG), "b": (3, 1, LONG)})["a", "b"], 0)
        self.assertIs(raised(flow, ("a", "b"), {"a": (0, 2, LONG), "b": (2, 1, HIGH + 1)}).__class__, InvalidGame)
        self.assertIs(raised(flow, ("a", "b"), {"a": (0, 1, HIGH), "b": (0, 1, 1)}).__class__, InvalidGame)
        self.assertIs(raised(flow, ("k",), {"k": (0, 1, LONG)}).__class__, InvalidGame)
        self.assertEqual(flow(("k",), {"k": (0, 1, HIGH)})["k",], HIGH)
        self.assertEqual(flow(("k",), {"k": (1, 0, LONG)})["k",], 0)

    def test_what_it_was_made_of(self):
        links = {"a": (0, 1, 1)}
        game = flow(("a",), links)
        links["a"] = (0, 1, 2)
        self.assertEqual(game["a",], 1)

    def test_errors(self):
        for people in PEOPLE:
            more = dict(KINDS, links=(no_links, InvalidOperation, None))
            refused(self, flow, (people, {person: (0, 1, 1) for person in people}), "people links", more)


class Order(unittest.TestCase):
    def test_there_is_no_such_game_comes_last(self):
        self.assertIs(raised(queue, ("a", "b"), (LONG, 0), (0, -1)).__class__, InvalidOperation)
        self.assertIs(raised(tree, ("a", "b"), {"a": "b", "b": "a"}, (LONG, 0)).__class__, InvalidOperation)
        self.assertIs(raised(tree, ("a", "b"), {"a": "b", "b": None}, (LONG, -1)).__class__, InvalidOperation)
        self.assertIs(raised(airfield, ("b", "a"), (-1, 0)).__class__, InvalidGame)
        self.assertIs(raised(flow, ("a", "b"), {"a": (0, 1, LONG), "b": (0, 0, 1)}).__class__, InvalidOperation)
        found = raised(estate, ("a", "b"), -1, (-1, 0))
        self.assertEqual((found.__class__, found.value), (InvalidNumber, -1))


if __name__ == "__main__":
    unittest.main()
