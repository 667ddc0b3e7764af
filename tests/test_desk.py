"""[16.1], [0.2], [0.4], [1.3], stage 16: a desk."""

import random
import unittest

from joinmore.base.games import Game
from joinmore.desk.desk import Desk
from joinmore.errors import (
    InvalidGame, InvalidNumber, InvalidOperation, InvalidSharing, Left, NothingToUndo, NotGrowing, UnknownName,
)
from joinmore.pay.bounds import greatest_share, least_share
from joinmore.pay.papers import is_paper
from tests.cases import (
    MOST, PAIRS, PEOPLE, STEPS, all_groups, broken_by_hand, by_size, given_by_hand, growing, growing_games, left_by_hand, no_amounts, no_games,
    no_groups, no_persons, no_sharings, other_games, pairs_of, room_by_hand, same, sharing_of, some_kept, strange,
    walked, wild, worths_of,
)
from tests.refusals import raised, unchanged

HIGH = 10 ** 9


def is_whole(value, least):
    return value.__class__ is int and least <= value < 10 ** 60


class Record:
    """What a desk should be: each call is told by hand, and each state is kept in a list."""

    def __init__(self, game):
        self.states = [(game, None, False)]
        self.at = 0

    @property
    def now(self):
        return self.states[self.at]

    def copied(self):
        other = Record(None)
        other.states, other.at = list(self.states), self.at
        return other

    def go(self, game, sharing, held):
        self.states = self.states[:self.at + 1] + [(game, sharing, held)]
        self.at += 1

    def call(self, name, args):
        """What the call should return, or the pair (error, what it keeps); the state is as behind it."""
        return getattr(self, "do_" + name)(*args)

    def do_put(self, group, worth):
        game, sharing, held = self.now
        if group not in all_groups(game.people) or group == ():
            return InvalidOperation, None
        if not is_whole(worth, -HIGH) or worth > HIGH:
            return InvalidNumber, worth
        worths = worths_of(game, game.people)
        worths[group] = worth
        behind = Game(game.people, worths)
        if sharing is not None and behind[game.people] != game[game.people]:
            return InvalidOperation, None
        if held and broken_by_hand(behind):
            return NotGrowing, broken_by_hand(behind)[0]
        if sharing is not None and left_by_hand(behind, sharing):
            return Left, left_by_hand(behind, sharing)[0]
        self.go(behind, sharing, held)
        return None

    def do_hold(self):
        game, sharing, _ = self.now
        if broken_by_hand(game):
            return NotGrowing, broken_by_hand(game)[0]
        self.go(game, sharing, True)
        return None

    def do_release(self):
        game, sharing, held = self.now
        if not held:
            return InvalidOperation, None
        self.go(game, sharing, False)
        return None

    def do_keep(self, sharing):
        game, _, held = self.now
        if sharing.__class__ is not tuple or len(sharing) != len(game.people) or not all(is_whole(share, -10 ** 60 + 1) for share in sharing):
            return InvalidSharing, None
        if sum(sharing) != game[game.people]:
            return InvalidSharing, None
        if left_by_hand(game, sharing):
            return Left, left_by_hand(game, sharing)[0]
        self.go(game, sharing, held)
        return None

    def do_forget(self):
        game, sharing, held = self.now
        if sharing is None:
            return InvalidOperation, None
        self.go(game, None, held)
        return None

    def do_give(self, giver, getter, amount):
        game, sharing, held = self.now
        if sharing is None:
            return InvalidOperation, None
        for person in (giver, getter):
            if person not in game.people:
                return UnknownName, person
        if giver == getter:
            return InvalidOperation, None
        if not is_whole(amount, 0):
            return InvalidNumber, amount
        if amount > room_by_hand(game, sharing, giver, getter):
            return InvalidOperation, None
        self.go(game, given_by_hand(game, sharing, giver, getter, amount), held)
        return None

    def do_undo(self, many=1):
        if not is_whole(many, 0):
            return InvalidNumber, many
        if many > self.at:
            return NothingToUndo, many
        self.at -= many
        return self.at

    def do_redo(self, many=1):
        if not is_whole(many, 0):
            return InvalidNumber, many
        if many > len(self.states) - 1 - self.at:
            return NothingToUndo, many
        self.at += many
        return self.at


def done(desk, name, args):
    """What a call of the desk returns, or the pair (error, what it keeps)."""
    try:
        if name in ("undo", "redo"):
            return getattr(desk, name)(**({"many": args[0]} if args else {}))
        return getattr(desk, name)(*args)
    except (ValueError, LookupError, ArithmeticError) as error:
        return error.__class__, next(iter(vars(error).values()), None)


KEPT_GAMES = [
    PAIRS, STEPS, MOST, by_size(("a", "b"), [0, 0, 9]), Game(("k",), {("k",): 4}), growing(("ann", "bob", "eve", "z"), 2), growing(PEOPLE[-1], 7),
    wild(("a", "b", "c"), 4),
]


def some_call(source, desk_game, sharing):
    """A call with right, near right or wrong arguments."""
    people = desk_game.people
    groups = all_groups(people)
    name = source.choice(("put",) * 6 + ("hold", "release", "keep", "keep", "forget", "give", "give", "give", "undo", "undo", "redo", "redo"))
    if name == "put":
        group = source.choice(groups)
        worth = desk_game[group] + source.choice((-3, -1, -1, 0, 1, 1, 2, 5))
        if source.random() < 0.1:
            worth = source.choice((HIGH, HIGH + 1, -HIGH, -HIGH - 1, True, None, "1", 10 ** 60))
        if source.random() < 0.05:
            group = source.choice(no_groups(people))
        return name, (group, worth)
    if name == "keep":
        if source.random() < 0.15:
            return name, (source.choice(no_sharings(desk_game)),)
        order = list(people)
        source.shuffle(order)
        return name, (walked(desk_game, order) if source.random() < 0.7 else sharing_of(desk_game, source.randrange(9)),)
    if name == "give":
        giver, getter = source.choice(people), source.choice(people)
        amount = source.choice((0, 1, 1, 2, 3, 10))
        if sharing is not None and giver != getter and source.random() < 0.5:
            amount = room_by_hand(desk_game, sharing, giver, getter) + source.choice((0, 0, 1))
        if source.random() < 0.1:
            amount = source.choice(no_amounts())
        if source.random() < 0.06:
            giver = source.choice(no_persons(people))
        if source.random() < 0.06:
            getter = source.choice(no_persons(people))
        return name, (giver, getter, amount)
    if name in ("undo", "redo"):
        if source.random() < 0.15:
            return name, (source.choice(no_amounts()),)
        return name, source.choice(((), (), (0,), (1,), (2,), (3,), (6,), (40,)))
    return name, ()


class Histories(unittest.TestCase):
    def hold_equal(self, desk, record):
        game, sharing, held = record.now
        self.assertEqual((desk.game, desk.sharing, desk.held), (game, sharing, held))
        self.assertTrue(same(desk.sharing, sharing))
        self.assertIs(desk.held, held)
        if sharing is not None:
            self.assertEqual(left_by_hand(game, sharing), [])
        if held:
            self.assertEqual(broken_by_hand(game), [])
        self.assertEqual(len(desk), len(game))
        self.assertEqual(str(desk), f"desk of {len(game)} persons, {game[game.people]} in all")
        # How many calls can be taken back, and done again, without taking any.
        self.assertEqual(desk.undo(many=0), record.at)
        self.assertIs(raised(lambda: desk.undo(many=record.at + 1)).__class__, NothingToUndo)
        self.assertIs(raised(lambda: desk.redo(many=len(record.states) - record.at)).__class__, NothingToUndo)

    def step(self, source, desk, record, seen):
        game, sharing, _ = record.now
        name, args = some_call(source, game, sharing)
        before = repr(args)
        expected = record.call(name, args)
        told = done(desk, name, args)
        self.assertTrue(same(told, expected), (name, args, told, expected))
        self.assertEqual(repr(args), before)
        seen.add((name, told[0].__name__ if isinstance(told, tuple) else "done"))
        self.hold_equal(desk, record)

    def test_long_histories(self):
        seen = set()
        for seed, game in enumerate(KEPT_GAMES):
            for turn in range(3):
                source = random.Random(100 * seed + turn)
                desk, record = Desk(game), Record(game)
                self.hold_equal(desk, record)
                for _ in range(120):
                    self.step(source, desk, record, seen)
        for name, words in (
            ("put", "done InvalidOperation InvalidNumber NotGrowing Left"), ("hold", "done NotGrowing"), ("release", "done InvalidOperation"),
            ("keep", "done InvalidSharing Left"), ("forget", "done InvalidOperation"), ("give", "done UnknownName InvalidOperation InvalidNumber"),
            ("undo", "done InvalidNumber NothingToUndo"), ("redo", "done InvalidNumber NothingToUndo"),
        ):
            self.assertEqual({word for told, word in seen if told == name}, set(words.split()))

    def test_blocks(self):
        for seed, game in enumerate(KEPT_GAMES):
            source = random.Random(seed)
            desk, record, seen = Desk(game), Record(game), set()
            for _ in range(30):
                self.step(source, desk, record, seen)
            for _ in range(12):
                self.block(source, desk, record, seen, 3)
                self.hold_equal(desk, record)
                # All that could be done again can be done again behind the block, too.
                self.assertEqual(desk.twin().redo(many=len(record.states) - 1 - record.at), len(record.states) - 1)
                self.step(source, desk, record, seen)

    def block(self, source, desk, record, seen, deep):
        """A block with calls in it, and with further blocks, that ends by an error or without one."""
        inner = record.copied()
        fails = source.random() < 0.5

        def run(same_desk):
            self.assertIs(same_desk, desk)
            for _ in range(4):
                self.step(source, desk, inner, seen)
            if deep > 1:
                self.block(source, desk, inner, seen, deep - 1)
                self.hold_equal(desk, inner)
                self.step(source, desk, inner, seen)
            if fails:
                raise KeyError("out")
            return "told"
        if source.random() < 0.5:
            try:
                self.assertEqual(desk.during(run), "told")
                self.assertFalse(fails)
            except KeyError as error:
                self.assertEqual((error.args, fails), (("out",), True))
        else:
            try:
                with desk.trial() as same_desk:
                    run(same_desk)
                self.assertFalse(fails)
            except KeyError as error:
                self.assertEqual((error.args, fails), (("out",), True))
        self.hold_equal(desk, record)

    def test_twins(self):
        for seed, game in enumerate(KEPT_GAMES):
            source = random.Random(seed + 50)
            desk, record, seen = Desk(game), Record(game), set()
            pairs = [(desk, record)]
            for turn in range(90):
                desk, record = source.choice(pairs)
                self.step(source, desk, record, seen)
                if turn % 15 == 0:
                    twin = desk.twin()
                    self.assertIs(twin.__class__, Desk)
                    self.assertIs(twin == desk, True)
                    pairs.append((twin, record.copied()))
                for one, told in pairs:
                    self.hold_equal(one, told)

    def test_a_great_history(self):
        desk = Desk(Game(("a", "b"), {("a",): 0, ("a", "b"): 0, ("b",): 0}))
        for at in range(30000):
            desk.put(("a",), at)
        with desk.trial():
            self.assertEqual(desk.undo(many=29999), 1)
            self.assertEqual(desk.game["a",], 0)
            desk.put(("a",), 7)
        twin = desk.twin()
        self.assertEqual(desk.undo(many=30000), 0)
        self.assertEqual(desk.redo(many=29000), 29000)
        self.assertEqual(desk.game["a",], 28999)
        self.assertEqual(twin.undo(many=0), 30000)


class Puts(unittest.TestCase):
    def test_refused_in_order(self):
        desk = Desk(PAIRS)
        desk.hold()
        desk.keep((2, 2, 2))
        for group in no_groups(PAIRS.people) + [()]:
            for worth in (1, None, 2 * HIGH, 7):
                self.assertIs(raised(desk.put, group, worth).__class__, InvalidOperation, (group, worth))
        for group in (("a",), PAIRS.people):
            for worth in (None, True, HIGH + 1, -HIGH - 1, 10 ** 60, "1", (1,), [1], 1.5):
                found = raised(desk.put, group, worth)
                self.assertEqual((found.__class__, found.value), (InvalidNumber, worth))
        # The worth of all cannot change, also if the game would not be growing, and some group would leave.
        for worth in (5, 7, -90, HIGH):
            self.assertIs(raised(desk.put, PAIRS.people, worth).__class__, InvalidOperation)
        self.assertIsNone(desk.put(PAIRS.people, 6))
        # Here a test is broken, and a group would leave, too.
        found = raised(desk.put, ("a",), 3)
        self.assertEqual((found.__class__, found.test), (NotGrowing, ((), "a", "b")))
        desk.release()
        found = raised(desk.put, ("a",), 3)
        self.assertEqual((found.__class__, found.group), (Left, ("a",)))
        desk.forget()
        self.assertIsNone(desk.put(("a",), 3))
        self.assertEqual(desk.game["a",], 3)
        self.assertEqual(desk.undo(many=0), 6)

    def test_the_first_group_that_would_leave(self):
        desk = Desk(PAIRS)
        desk.keep((0, 2, 4))
        for group, worth, first in ((("a", "b"), 3, ("a", "b")), (("b",), 9, ("b",)), (("b", "c"), 7, ("b", "c"))):
            found = raised(desk.put, group, worth)
            self.assertEqual((found.__class__, found.group), (Left, first))
        self.assertEqual((desk.game == PAIRS, desk.undo(many=0)), (True, 1))

    def test_a_worth_as_it_was_is_a_call_as_well(self):
        desk = Desk(PAIRS)
        self.assertIsNone(desk.put(("a",), 0))
        self.assertEqual((desk.undo(), desk.redo()), (0, 1))


class Told(unittest.TestCase):
    def desks(self):
        for game in growing_games():
            for sharing in some_kept(game, 2):
                desk = Desk(game)
                desk.keep(sharing)
                yield desk, game, sharing
        desk = Desk(MOST)
        desk.keep((2, 2, 2))
        yield desk, MOST, (2, 2, 2)

    def test_rooms(self):
        for desk, game, sharing in self.desks():
            told = unchanged(self, desk.rooms)
            self.assertEqual(told, {pair: room_by_hand(game, sharing, *pair) for pair in pairs_of(game.people)})
            self.assertEqual(list(told), sorted(told))
            told.clear()
            self.assertEqual(len(desk.rooms()), len(game) * (len(game) - 1))

    def test_papers(self):
        for desk, game, sharing in self.desks():
            if broken_by_hand(game):
                found = raised(desk.paper)
                self.assertEqual((found.__class__, found.test), (NotGrowing, broken_by_hand(game)[0]))
            else:
                told = unchanged(self, desk.paper)
                self.assertEqual(told[0], "mixture")
                self.assertIs(is_paper(game, sharing, told), True)

    def test_bounds(self):
        for game in growing_games():
            desk = Desk(game)
            for person in game.people:
                rest = tuple(other for other in game.people if other != person)
                told = unchanged(self, desk.bounds, person)
                self.assertEqual(told, (game[person,], game[game.people] - game[rest]))
                self.assertEqual(told, (least_share(game, (person,)), greatest_share(game, (person,))))
                self.assertIsInstance(told, tuple)
        for game in other_games():
            for person in game.people:
                found = raised(Desk(game).bounds, person)
                self.assertEqual((found.__class__, found.test), (NotGrowing, broken_by_hand(game)[0]))
            for value in no_persons(game.people):
                found = raised(Desk(game).bounds, value)
                self.assertIs(found.__class__, UnknownName)
                self.assertTrue(same(found.name, value))

    def test_none_is_kept(self):
        for game in (PAIRS, MOST, wild(PEOPLE[-1], 2)):
            desk = Desk(game)
            for call in (desk.forget, desk.paper, desk.rooms, desk.release):
                self.assertIs(raised(call).__class__, InvalidOperation)
            for args in (("a", "b", 1), ("zz", "b", 1), ("a", "a", 1), ("a", "b", None), (None, None, None)):
                self.assertIs(raised(desk.give, *args).__class__, InvalidOperation)
            self.assertEqual(desk.undo(many=0), 0)

    def test_wrong_values(self):
        desk = Desk(PAIRS)
        desk.keep((2, 2, 2))
        for value in no_sharings(PAIRS):
            self.assertIs(raised(desk.keep, value).__class__, InvalidSharing)
        for value in no_persons(PAIRS.people):
            for getter in ("a", "zz", None):
                found = raised(desk.give, value, getter, None)
                self.assertIs(found.__class__, UnknownName)
                self.assertTrue(same(found.name, value))
            found = raised(desk.give, "a", value, -1)
            self.assertTrue(found.__class__ is UnknownName and same(found.name, value))
            self.assertIs(value in desk, False)
        for value in no_amounts():
            found = raised(desk.give, "a", "b", value)
            self.assertTrue(found.__class__ is InvalidNumber and same(found.value, value))
            self.assertIs(raised(desk.give, "a", "a", value).__class__, InvalidOperation)
            for call in (desk.undo, desk.redo):
                found = raised(lambda: call(many=value))
                self.assertTrue(found.__class__ is InvalidNumber and same(found.value, value))
        self.assertIs(raised(desk.give, "a", "b", 3).__class__, InvalidOperation)
        self.assertIsNone(desk.give("a", "b", 2))
        self.assertEqual((desk.sharing, desk.undo(many=0)), ((0, 4, 2), 2))
        for value in no_games():
            self.assertIs(raised(Desk, value).__class__, InvalidGame)

    def test_many_is_a_keyword(self):
        desk = Desk(PAIRS)
        desk.hold()
        for call in (desk.undo, desk.redo):
            with self.assertRaises(TypeError):
                call(1)
        self.assertEqual(desk.undo(), 0)
        self.assertEqual(desk.redo(many=1), 1)
        found = raised(lambda: desk.undo(many=10 ** 60 - 1))
        self.assertEqual((found.__class__, found.many), (NothingToUndo, 10 ** 60 - 1))
        found = raised(desk.redo)
        self.assertEqual((found.__class__, found.many), (NothingToUndo, 1))


class Compared(unittest.TestCase):
    def test_equal_desks(self):
        one, other = Desk(PAIRS), Desk(PAIRS.renamed({}))
        self.assertIs(one == other, True)
        self.assertIs(one != other, False)
        steps = (("hold", ()), ("keep", ((2, 2, 2),)), ("put", (("a",), 1)), ("give", ("a", "b", 1)), ("release", ()), ("forget", ()))
        for name, args in steps:
            getattr(one, name)(*args)
            self.assertIs(one == other, False)
            self.assertIs(one != other, True)
            getattr(other, name)(*args)
            self.assertIs(one == other, True)
        # What can be undone does not count.
        other.put(("a",), 1)
        self.assertIs(one == other, True)
        one.undo(many=6)
        self.assertIs(one == Desk(PAIRS), True)
        self.assertIs(Desk(PAIRS) == Desk(STEPS), False)

    def test_other_values(self):
        desk = Desk(PAIRS)
        for value in strange() + [PAIRS, (PAIRS, None, False), Desk]:
            self.assertIs(desk == value, False)
            self.assertIs(desk != value, True)

    def test_persons(self):
        desk = Desk(PAIRS)
        self.assertEqual([person in desk for person in ("a", "b", "c", "d", "", ("a",))], [True, True, True, False, False, False])
        for value in no_persons(PAIRS.people):
            self.assertIs(value in desk, False)
        with self.assertRaises(TypeError):
            iter(desk)
        self.assertEqual([len(Desk(game)) for game in (Game(("k",), {("k",): -3}), PAIRS, wild(PEOPLE[-1], 2))], [1, 3, 5])
        self.assertEqual(str(Desk(Game(("k",), {("k",): -3}))), "desk of 1 persons, -3 in all")


class NothingShared(unittest.TestCase):
    def test_games_and_twins(self):
        desk = Desk(PAIRS)
        game = desk.game
        desk.put(("a",), -1)
        self.assertEqual((game == PAIRS, PAIRS["a",], desk.game["a",]), (True, 0, -1))
        twin = desk.twin()
        twin.put(("a",), -2)
        desk.undo()
        self.assertEqual((desk.game["a",], twin.game["a",], twin.undo(many=2)), (0, -2, 0))

    def test_refused_calls_change_nothing(self):
        desk = Desk(PAIRS)
        desk.hold()
        desk.keep((2, 2, 2))
        desk.undo()
        for call in (
            lambda: desk.put(("a",), 3), lambda: desk.put(("a",), None), lambda: desk.keep((6, 0, 0)), lambda: desk.keep(None), desk.forget,
            lambda: desk.give("a", "b", 1), lambda: desk.undo(many=2), lambda: desk.undo(many=-1), lambda: desk.redo(many=2), desk.rooms, desk.paper,
        ):
            self.assertIsNotNone(raised(call))
            self.assertEqual((desk.game == PAIRS, desk.sharing, desk.held, desk.undo(many=0)), (True, None, True, 1))
        # What was taken back can still be done again.
        self.assertEqual((desk.redo(), desk.sharing), (2, (2, 2, 2)))

    def test_one_block_object_for_several_blocks(self):
        desk = Desk(PAIRS)
        block = desk.trial()
        desk.put(("a",), -1)
        # The block begins where it is entered, not where it was made.
        with block as same_desk:
            self.assertIs(same_desk, desk)
            desk.put(("a",), -2)
            with block:
                desk.put(("a",), -3)
                self.assertEqual(desk.undo(many=0), 3)
            self.assertEqual((desk.game["a",], desk.undo(many=0)), (-2, 2))
        self.assertEqual((desk.game["a",], desk.undo(many=0)), (-1, 1))
        with block:
            desk.undo()
        self.assertEqual((desk.game["a",], desk.undo(many=0)), (-1, 1))

    def test_what_during_returns(self):
        desk = Desk(PAIRS)
        self.assertEqual(desk.during(lambda same_desk: (same_desk is desk, same_desk.hold(), same_desk.held)), (True, None, True))
        self.assertEqual((desk.held, desk.undo(many=0)), (False, 0))
        self.assertIsNone(desk.during(lambda same_desk: None))
        error = UnknownName("x")

        def fails(same_desk):
            same_desk.hold()
            raise error
        self.assertIs(raised(desk.during, fails), error)
        self.assertIs(desk.held, False)
        twin = desk.during(lambda same_desk: (same_desk.hold(), same_desk.twin())[1])
        self.assertEqual((twin.held, twin.undo(many=0), desk.held), (True, 1, False))

    def test_the_block_keeps_what_can_be_done_again(self):
        desk = Desk(PAIRS)
        desk.hold()
        desk.keep((2, 2, 2))
        desk.undo()
        with desk.trial():
            desk.put(("a",), -2)
            self.assertIs(raised(desk.redo).__class__, NothingToUndo)
        self.assertEqual((desk.redo(), desk.sharing), (2, (2, 2, 2)))


if __name__ == "__main__":
    unittest.main()
