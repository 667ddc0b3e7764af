"""[0.1] to [0.18] across the stages: one desk, the papers, plans and gifts of each of its states, its texts, and the shell beside it."""

import random
import time
import unittest

from joinmore.base.games import Game
from joinmore.base.gaps import broken, is_growing
from joinmore.desk.desk import Desk
from joinmore.errors import InvalidOperation, InvalidSharing, Left, MoreError, NotGrowing, UnknownName
from joinmore.more.beaten import does_beat, is_steady_paper, needy, steady_paper
from joinmore.more.built import airfield, estate, flow, queue, savings, tree
from joinmore.more.even import even, even_sharing
from joinmore.more.fair import by_dividends, dividends, fair, fair_sharing, is_told_back, told_back
from joinmore.more.moves import kept_sharings, moves
from joinmore.more.parts import freedom, is_short_paper, part_games, parts, short_paper
from joinmore.more.plans import falls, fall_by, is_plan, is_plans_paper, mixed_plan, order_plan, plan_to, plans_paper
from joinmore.more.poorest import is_fairer, is_levelled, levelled, levelling, poorest
from joinmore.pay.bounds import gift, greatest_share, least_share, room, tight
from joinmore.pay.mixtures import is_mixture, mix, weight_of
from joinmore.pay.papers import is_paper, paper
from joinmore.pay.pays import orders, pays
from joinmore.pay.sharings import is_kept, leaving
from joinmore.pay.verdict import game_paper, is_game_paper
from joinmore.text.formats import (
    read_game, read_sharing, read_value, read_weights, write_game, write_sharing, write_value, write_weights,
)
from joinmore.text.shell import Shell
from tests.cases import (
    MOST, PAIRS, PEOPLE, STEPS, all_groups, broken_by_hand, by_size, growing, growing_games, high_games, left_by_hand, other_games, small_growing, some_groups,
    some_kept, some_left, walked,
)
from tests.refusals import raised

LONG = 10 ** 60 - 1


def joined(values):
    return " ".join(str(value) for value in values)


class OneDesk(unittest.TestCase):
    def lines(self, source, desk):
        """Some right lines for the shell, and the calls of a desk that do the same."""
        game = desk.game
        group = source.choice(all_groups(game.people)[1:])
        worth = game[group] + source.choice((-1, -1, 0, 1, 2))
        order = list(game.people)
        source.shuffle(order)
        row = walked(game, order)
        giver, getter = source.choice(game.people), source.choice(game.people)
        much = source.choice((0, 1, 1, 2, 5))
        return source.choice((
            (f"set {worth} {joined(group)}", lambda: desk.put(group, worth)), (f"set {worth} {joined(group)}", lambda: desk.put(group, worth)),
            (f"keep {joined(row)}", lambda: desk.keep(row)), (f"give {much} {giver} {getter}", lambda: desk.give(giver, getter, much)),
            (f"give {much} {giver} {getter}", lambda: desk.give(giver, getter, much)), ("undo", desk.undo), ("redo", desk.redo),
            ("undo 2", lambda: desk.undo(many=2)), ("hold", desk.hold), ("forget", desk.forget),
        ))

    def test_histories(self):
        kept = 0
        for seed, game in enumerate((PAIRS, STEPS, by_size(("a", "b"), [0, 1, 9]), growing(PEOPLE[3], 2), growing(PEOPLE[-1], 7), Game(("k",), {("k",): 5}))):
            source = random.Random(seed)
            desk, shell = Desk(game), Shell(write_game(game))
            for line in ("hold", "keep " + joined(walked(game, game.people))):
                self.assertEqual(shell(line), "done")
            desk.hold()
            desk.keep(walked(game, game.people))
            for _ in range(60):
                line, call = self.lines(source, desk)
                found = raised(call)
                self.assertEqual(shell(line) == "done", found is None, line)
                self.assertEqual(shell.desk(), desk)
                self.hold_state(desk, shell)
                kept += desk.sharing is not None
        self.assertTrue(kept > 150)

    def hold_state(self, desk, shell):
        game, sharing = desk.game, desk.sharing
        self.hold_texts(desk, shell)
        self.assertIs(is_game_paper(game, game_paper(game)), True)
        self.assertIs(is_plans_paper(game, plans_paper(game)), True)
        if sharing is None:
            return
        self.assertIs(is_kept(game, sharing), True)
        self.assertEqual(desk.rooms(), {(one, two): room(game, sharing, one, two) for one in game.people for two in game.people if one != two})
        self.assertEqual(shell("tight"), "\n".join(joined(group) for group in tight(game, sharing) if group))
        if not is_growing(game):
            first = broken(game)[0]
            for call in (desk.paper, lambda: paper(game, sharing), lambda: steady_paper(game, sharing), lambda: plan_to(game, sharing), lambda: levelled(game, sharing)):
                found = raised(call)
                self.assertEqual((found.__class__, found.test), (NotGrowing, first))
            return
        told = desk.paper()
        self.assertEqual((told, told[0]), (paper(game, sharing), "mixture"))
        self.assertIs(is_mixture(game, sharing, told[1]), True)
        self.assertIs(is_short_paper(game, sharing, short_paper(game, sharing)), True)
        self.assertEqual(steady_paper(game, sharing), ("kept",))
        factor, plan = plan_to(game, sharing)
        self.assertEqual((is_plan(game, factor, plan), falls(game, factor, plan), plan[game.people]), (True, (), tuple(share * factor for share in sharing)))
        many, gifts = levelled(game, sharing)
        self.assertIs(is_levelled(game, sharing, (many, gifts)), True)
        self.assertEqual(many, even_sharing(game, (1,) * len(game))[0])
        for person in game.people:
            least, greatest = desk.bounds(person)
            self.assertEqual((least, greatest), (least_share(game, (person,)), greatest_share(game, (person,))))
            self.assertTrue(least <= sharing[game.people.index(person)] <= greatest)
            self.assertEqual(shell("bounds " + person), f"{least} {greatest}")
        for giver, getter in moves(game, sharing):
            self.assertIs(is_kept(game, gift(game, sharing, giver, getter, 1)), True)

    def hold_texts(self, desk, shell):
        """The texts of a desk make a desk that answers equally."""
        game, sharing = desk.game, desk.sharing
        other = Desk(read_game(write_game(game)))
        beside = Shell(shell("game"))
        if sharing is not None:
            other.keep(read_sharing(other.game, write_sharing(game, sharing)))
            self.assertEqual(beside("keep " + shell("sharing")), "done")
        if desk.held:
            other.hold()
            self.assertEqual(beside("hold"), "done")
        self.assertIs(other == desk, True)
        self.assertIs(beside.desk() == desk, True)
        for line in ("game", "sharing", "held", "growing", "broken", "pays", "tight", "paper", "verdict", "bounds " + game.people[0], "worth " + joined(game.people)):
            self.assertEqual(beside(line), shell(line))
        if sharing is not None and is_growing(game):
            told = desk.paper()
            self.assertEqual(read_value(shell("paper")), told)
            self.assertEqual(read_value(write_value(told)), told)
            self.assertEqual(read_weights(game, write_weights(game, told[1])), told[1])
            self.assertEqual(read_value(write_value(desk.rooms())), desk.rooms())
            self.assertEqual(read_value(write_value(plan_to(game, sharing))), plan_to(game, sharing))
            self.assertEqual(read_value(write_value(levelled(game, sharing))), levelled(game, sharing))


class HangTogether(unittest.TestCase):
    def test_growing_exactly_if(self):
        for game in growing_games() + other_games():
            expected = broken_by_hand(game) == []
            self.assertEqual(
                (is_growing(game), game_paper(game) == ("growing",), plans_paper(game) == ("never",), is_told_back(game), all(is_kept(game, told) for told in pays(game))),
                (expected,) * 5,
            )
            for test in broken(game):
                self.assertIn(fall_by(game, test)[1], falls(game, 1, order_plan(game, fall_by(game, test)[0])))
            self.assertEqual(Shell(write_game(game))("growing"), "yes" if expected else "no")

    def test_each_sharing_has_one_of_two_papers(self):
        for game in growing_games():
            for sharing in some_kept(game, 2) + some_left(game):
                kept = left_by_hand(game, sharing) == []
                self.assertEqual(paper(game, sharing)[0], "mixture" if kept else "leaves")
                self.assertEqual(steady_paper(game, sharing)[0], "kept" if kept else "beaten")
                self.assertEqual((needy(game, sharing) == (), leaving(game, sharing) == ()), (kept, kept))
                if kept:
                    weights = paper(game, sharing)[1]
                    total = weight_of(game, weights)
                    self.assertEqual(mixed_plan(game, weights)[game.people], mix(game, weights))
                    self.assertEqual(mix(game, weights), tuple(share * total for share in sharing))
                else:
                    word, group, factor, better = steady_paper(game, sharing)
                    self.assertIs(does_beat(game, factor, better, sharing, group), True)
                    self.assertIn(group, needy(game, sharing))

    def test_fair_and_even_shares(self):
        for game in growing_games():
            told = orders(game)
            alike = tuple((order, 1) for order in told)
            many, sharing = fair_sharing(game)
            self.assertEqual(tuple(share * len(told) for share in sharing), tuple(share * many for share in mix(game, alike)))
            self.assertEqual(mixed_plan(game, alike)[game.people], mix(game, alike))
            factor, aim = even_sharing(game, (1,) * len(game))
            self.assertEqual(levelling(game, factor, aim), None)
            if factor * many <= 10 ** 6:
                fair_row, even_row = tuple(share * factor for share in sharing), tuple(share * many for share in aim)
                self.assertIs(is_fairer(game, factor * many, even_row, fair_row), True)
                self.assertEqual(poorest(game, factor * many, even_row)[-1], factor * many * game[game.people])

    def test_parts(self):
        for game in growing_games():
            shares = dict(zip(game.people, fair(game)))
            levels = dict(zip(game.people, even(game, (1,) * len(game))))
            self.assertEqual(freedom(game), len(game) - len(parts(game)))
            for alone in part_games(game):
                # Persons of other parts bring nothing to a part, neither in fair nor in even shares.
                self.assertEqual(fair(alone), tuple(shares[person] for person in alone.people))
                self.assertEqual(even(alone, (1,) * len(alone)), tuple(levels[person] for person in alone.people))

    def test_built_games(self):
        built = [
            estate(("a", "b", "c"), 100, (60, 40, 30)), queue(("a", "b", "c", "d"), (3, 2, 2, 1), (1, 2, 3, 4)), savings(airfield(("a", "b", "c"), (3, 5, 9))),
            savings(tree(("a", "b", "c", "d"), {"a": None, "b": "a", "c": "b", "d": "a"}, (4, 1, 2, 3))), flow(("a", "b"), {"a": (0, 2, 3), "b": (2, 1, 5)}),
        ]
        for game in built:
            self.assertIs(is_growing(game), True)
            self.assertEqual(by_dividends(game.people, dividends(game)), game)
            self.assertEqual(told_back(game.people, pays(game)), game)
            sharing = walked(game, game.people[::-1])
            self.assertIs(is_levelled(game, sharing, levelled(game, sharing)), True)
            self.assertIs(is_paper(game, sharing, paper(game, sharing)), True)
            desk = Desk(game)
            desk.hold()
            desk.keep(sharing)
            self.assertEqual(desk.paper(), paper(game, sharing))
        # An airfield of costs: each pays for what those behind it need, too, in the fair shares.
        self.assertEqual(fair(airfield(("a", "b", "c"), (3, 5, 9))), ((1, 1), (2, 1), (6, 1)))

    def test_kept_sharings_are_steady(self):
        for game in small_growing()[:6]:
            kept = kept_sharings(game)
            for sharing in kept[:6]:
                for other in kept[:6]:
                    self.assertTrue(all(not does_beat(game, 1, other, sharing, group) for group in some_groups(game.people)))


class NotTrue(unittest.TestCase):
    def test_fair_and_even_shares_of_games_with_kept_sharings(self):
        # [0.17]: this game has a kept sharing, but the fair one is not kept, and the one nearest to even is not.
        game = Game(("a", "b", "c"), {("a",): 0, ("a", "b"): 6, ("a", "b", "c"): 6, ("a", "c"): 6, ("b",): 0, ("b", "c"): 0, ("c",): 0})
        self.assertEqual((is_kept(game, (6, 0, 0)), is_growing(game)), (True, False))
        self.assertEqual((fair(game), is_kept(game, (4, 1, 1)), is_kept(game, (2, 2, 2))), (((4, 1), (1, 1), (1, 1)), False, False))
        self.assertIs(raised(even, game, (1, 1, 1)).__class__, NotGrowing)

    def test_most_has_one_kept_sharing(self):
        self.assertEqual((is_kept(MOST, (2, 2, 2)), is_growing(MOST)), (True, False))
        self.assertEqual(set(desk_moves(MOST, (2, 2, 2)).values()), {0})


def desk_moves(game, sharing):
    desk = Desk(game)
    desk.keep(sharing)
    return desk.rooms()


class Conventions(unittest.TestCase):
    def test_bases_of_errors(self):
        for call, base in (
            (lambda: Desk(PAIRS).bounds("zz"), KeyError), (lambda: Desk(PAIRS).put(("a",), None), IndexError), (lambda: Desk(MOST).hold(), ArithmeticError),
            (lambda: Desk(PAIRS).keep((6, 0, 0)), ArithmeticError), (lambda: Desk(PAIRS).undo(), LookupError), (lambda: read_value("x"), MoreError),
            (lambda: estate(("a",), 1, (0,)), MoreError),
        ):
            with self.assertRaises(base):
                call()

    def test_errors_keep_copies(self):
        value = ["zz"]
        for call, name in ((lambda: Desk(PAIRS).bounds(value), "name"), (lambda: estate(("a",), value, (1,)), "value"), (lambda: poorest(PAIRS, value, (2, 2, 2)), "value")):
            found = raised(call)
            self.assertEqual(getattr(found, name), ["zz"])
            getattr(found, name).append(1)
            self.assertEqual(value, ["zz"])

    def test_the_first_error_that_applies(self):
        for game in other_games()[:6]:
            with self.assertRaises(InvalidSharing):
                levelled(game, None)
            with self.assertRaises(NotGrowing):
                levelled(game, (game[game.people],) + (0,) * (len(game) - 1))
        with self.assertRaises(Left):
            levelled(PAIRS, (6, 0, 0))
        with self.assertRaises(UnknownName):
            Desk(MOST).bounds("zz")
        with self.assertRaises(InvalidOperation):
            Desk(MOST).paper()

    def test_it_does_not_take_long(self):
        """Each of these calls, also at the bounds, ends in much less than a second."""
        people = PEOPLE[-1]
        rough = Game(people, {group: (10 ** 9 - 7 * at) * (-1) ** at for at, group in enumerate(some_groups(people))})
        alike = tuple((order, LONG - at) for at, order in enumerate(orders(rough)))
        calls = [
            lambda: fair_sharing(rough), lambda: dividends(rough), lambda: is_told_back(rough), lambda: plans_paper(rough), lambda: mixed_plan(rough, alike),
            lambda: write_weights(rough, alike), lambda: read_game(write_game(rough)), lambda: read_weights(rough, write_weights(rough, alike)),
            lambda: queue(people, (LONG,) * 5, (LONG,) * 5), lambda: flow(people, {person: (at, (at + 2) % 6, LONG) for at, person in enumerate(people)}),
            lambda: read_value("( " * 2000), lambda: read_value("{ " + "1 " * 1999 + "}"), lambda: Shell(write_game(rough))("pays"),
        ]
        for game in high_games(people):
            sharing = some_kept(game, 1)[-1]
            calls += [
                lambda game=game, sharing=sharing: plan_to(game, sharing), lambda game=game, sharing=sharing: levelled(game, sharing),
                lambda game=game, sharing=sharing: steady_paper(game, (LONG,) + (0,) * 3 + (game[people] - LONG,) if game[people] > 0 else sharing),
                lambda game=game, sharing=sharing: levelling(game, 10 ** 6, tuple(share * 10 ** 6 for share in sharing)),
                lambda game=game, sharing=sharing: is_steady_paper(game, sharing, ("beaten", people, 10 ** 6, sharing)),
            ]
        for call in calls:
            begun = time.perf_counter()
            raised(call)
            self.assertLess(time.perf_counter() - begun, 2)


if __name__ == "__main__":
    unittest.main()
