"""[17.1], [17.2], [0.4], [1.3], stage 17: texts."""

import random
import unittest

from joinmore.base.games import Game
from joinmore.errors import InvalidGame, InvalidOperation, InvalidSharing, InvalidWeights, ParseError
from joinmore.text.formats import (
    read_game, read_sharing, read_value, read_weights, write_game, write_sharing, write_value, write_weights,
)
from tests.cases import (
    MOST, PAIRS, PEOPLE, STEPS, all_orders, games, growing_games, high_games, is_row_by_hand, nested, no_sharings, other_games, same,
    sharing_of, some_groups, strange, walked, wild,
)
from tests.refusals import raised, refused, unchanged

LONG = 10 ** 60 - 1
NUMBERS = ("0", "7", "-7", "10", "-10", str(LONG), str(-LONG))
# None of these is written for an integer of at most sixty digits.
NO_NUMBERS = (
    "-0", "00", "07", "-07", "+7", "7.", "7.0", "1e3", "1_0", "0x7", "--7", "-", "", "7-", "7a", "=7", "10" * 31, "-" + "1" * 61, "1" * 61, "0" * 60,
    "1,0", "seven", "(", "yes",
)
NAMES = ("a", "z", "worth", "persons", "share", "order", "abcdefgh", "yes", "none")
NO_NAMES = ("", "A", "a1", "1", "abcdefghi", "a-b", "a_b", "a.", "=a", "-", "7", "aB", "a\t", "(", "{")


def index_of(call, *args):
    """The index that ParseError keeps, or None if no such error is raised."""
    found = raised(call, *args)
    if found is None:
        return None
    assert found.__class__ is ParseError, (args, found)
    assert found.index.__class__ is int
    return found.index


def changed(lines, at, line):
    """The text of the lines with another line at a place, or without it."""
    return "\n".join(lines[:at] + ([] if line is None else [line]) + lines[at + 1:])


class Games(unittest.TestCase):
    def by_hand(self, game):
        lines = ["persons " + " ".join(game.people)]
        return lines + ["worth " + " ".join(group) + " " + str(game[group]) for group in some_groups(game.people)]

    def all_games(self):
        odd = Game(("order", "persons", "worth"), {group: -3 * len(group) for group in some_groups(("order", "persons", "worth"))})
        return games() + growing_games() + other_games() + high_games(PEOPLE[-1]) + [odd]

    def test_there_and_back(self):
        for game in self.all_games():
            text = unchanged(self, write_game, game)
            self.assertEqual(text.split("\n"), self.by_hand(game))
            self.assertEqual(unchanged(self, read_game, text), game)

    def test_lines_that_have_no_form(self):
        lines = self.by_hand(STEPS)
        wrong = ["", " ", "persons", "worth", "worth a", "worth 7", "worth a b", "a 7", "share a 7", "order 7 a", "worths a 7", "Worth a 7", "worth 7 a"]
        wrong += ["worth " + name + " 7" for name in NO_NAMES] + ["worth a " + number for number in NO_NUMBERS]
        wrong += ["worth  a 7", "worth a  7", "worth a 7 ", " worth a 7", "worth a b ", "worth a 7 7", "worth a 7 b", "worth\ta 7", "worth a 7\r"]
        for line in wrong:
            for at in range(1, len(lines)):
                self.assertEqual(index_of(read_game, changed(lines, at, line)), at, line)
            # The first one of several wrong lines tells the index.
            self.assertEqual(index_of(read_game, changed(changed(lines, 3, line).split("\n"), 5, line)), 3)
        heads = ["", " ", "persons", "persons ", " persons a", "persons  a", "persons a ", "persons a 7", "Persons a", "person a", "worth a 7", "a b c"]
        heads += ["persons " + name for name in NO_NAMES] + ["persons a " + name for name in NO_NAMES]
        for line in heads:
            self.assertEqual(index_of(read_game, changed(lines, 0, line)), 0, line)
            self.assertEqual(index_of(read_game, line), 0)
            self.assertEqual(index_of(read_game, changed(changed(lines, 0, line).split("\n"), 4, "x")), 0)

    def test_persons_stand_first_and_only_there(self):
        lines = self.by_hand(STEPS)
        for at in range(1, len(lines)):
            self.assertEqual(index_of(read_game, changed(lines, at, "persons a b c")), at)
            self.assertEqual(index_of(read_game, "\n".join(lines[:at] + ["persons a"] + lines[at:])), at)
        self.assertEqual(index_of(read_game, "\n".join(lines + ["persons a"])), len(lines))
        self.assertEqual(index_of(read_game, "\n".join(lines[1:])), 0)
        self.assertEqual(index_of(read_game, "\n".join(lines[1:] + lines[:1])), 0)

    def test_each_line_is_right_but_no_game_has_the_text(self):
        lines = self.by_hand(STEPS)
        many = len(lines)
        for at in range(1, many):
            self.assertEqual(index_of(read_game, changed(lines, at, None)), many - 1)
            self.assertEqual(index_of(read_game, "\n".join(lines[:at] + [lines[at]] + lines[at:])), many + 1)
            for line in ("worth d 7", "worth a a 7", "worth b a 7", "worth a 1000000001", "worth a -1000000001", f"worth a {LONG}", "worth a b c d 7"):
                self.assertEqual(index_of(read_game, changed(lines, at, line)), many, line)
            if at > 1:
                swapped = lines[:at - 1] + [lines[at], lines[at - 1]] + lines[at + 1:]
                self.assertEqual(index_of(read_game, "\n".join(swapped)), many)
        for line in ("persons a b", "persons a b c d", "persons a c b", "persons a a b c", "persons a b d", "persons z", "persons a b c d e f"):
            self.assertEqual(index_of(read_game, changed(lines, 0, line)), many, line)
        for line in ("persons a", "persons a b c", "persons " + " ".join("abcdefghijklmnopqrstuvwxyz")):
            self.assertEqual(index_of(read_game, line), 1)
        self.assertEqual(index_of(read_game, "\n".join(lines) + "\nworth a 1"), many + 1)
        # Names and numbers do not count for the form of a line, only whether they are some.
        for number in NUMBERS:
            for name in NAMES:
                told = index_of(read_game, f"persons a\nworth {name} {number}")
                self.assertEqual(told, None if name == "a" and len(number) < 5 else 2)

    def test_line_feeds(self):
        lines = self.by_hand(PAIRS)
        self.assertEqual(index_of(read_game, "\n".join(lines) + "\n"), len(lines))
        self.assertEqual(index_of(read_game, "\n" + "\n".join(lines)), 0)
        self.assertEqual(index_of(read_game, "\n\n".join(lines)), 1)
        self.assertEqual(index_of(read_game, "\r\n".join(lines)), 0)
        self.assertEqual(index_of(read_game, ""), 0)
        self.assertEqual(index_of(read_game, "\n"), 0)

    def test_bounds_of_worths(self):
        for worth in (10 ** 9, -10 ** 9, 0):
            self.assertEqual(read_game(f"persons k\nworth k {worth}")["k",], worth)
        for worth in (10 ** 9 + 1, -10 ** 9 - 1, LONG):
            self.assertEqual(index_of(read_game, f"persons k\nworth k {worth}"), 2)

    def test_long_texts(self):
        for text in ("persons " + "a " * 1990, "persons " + "a " * 1990 + "a", "persons a\nworth " + "a " * 1980 + "7", "x" * 4000, "\n" * 4000, " " * 4000):
            told = index_of(read_game, text)
            self.assertEqual(told, {"persons a\n": 2}.get(text[:10], 1 if text.endswith("a a") else 0))


class Sharings(unittest.TestCase):
    def by_hand(self, game, sharing):
        return [f"share {person} {share}" for person, share in zip(game.people, sharing)]

    def sharings(self, game):
        found = [sharing_of(game, seed) for seed in range(4)] + [walked(game, game.people)]
        if len(game) > 1:
            found.append((LONG,) + (0,) * (len(game) - 2) + (game[game.people] - LONG,))
        return [sharing for sharing in found if is_row_by_hand(sharing, len(game))]

    def test_there_and_back(self):
        for game in games() + growing_games():
            for sharing in self.sharings(game):
                text = unchanged(self, write_sharing, game, sharing)
                self.assertEqual(text.split("\n"), self.by_hand(game, sharing))
                told = unchanged(self, read_sharing, game, text)
                self.assertTrue(same(told, sharing))

    def test_integers_of_sixty_digits(self):
        game = Game.additive(("a", "b"), (0, 0))
        text = f"share a {LONG}\nshare b {-LONG}"
        self.assertEqual((write_sharing(game, (LONG, -LONG)), read_sharing(game, text)), (text, (LONG, -LONG)))
        self.assertEqual(index_of(read_sharing, game, f"share a {LONG + 1}\nshare b {-LONG - 1}"), 0)
        self.assertEqual(index_of(read_sharing, game, f"share a 0\nshare b {-LONG - 1}"), 1)

    def test_lines_that_have_no_form(self):
        lines = self.by_hand(PAIRS, (7, -1, 0))
        wrong = ["", " ", "share", "share a", "share 7", "share a b 7", "share a 7 7", "share 7 a", "worth a 7", "persons a", "order 7 a", "a 7", "Share a 7"]
        wrong += ["share  a 7", "share a  7", "share a 7 ", " share a 7"]
        wrong += ["share " + name + " 7" for name in NO_NAMES] + ["share a " + number for number in NO_NUMBERS]
        for line in wrong:
            for at in range(3):
                self.assertEqual(index_of(read_sharing, PAIRS, changed(lines, at, line)), at, line)
            self.assertEqual(index_of(read_sharing, PAIRS, "\n".join(lines + [line])), 3)
            self.assertEqual(index_of(read_sharing, PAIRS, line), 0)

    def test_each_line_is_right_but_no_sharing_has_the_text(self):
        lines = self.by_hand(PAIRS, (7, -1, 0))
        told = [lines[:2], lines + lines[2:], [lines[1], lines[0], lines[2]], lines[::-1], lines[:1] * 3, lines + ["share d 0"], lines[1:], lines[:1]]
        told += [["share a 7", "share b -1", "share c 1"], ["share a 7", "share b -1", "share d 0"], ["share a 6"], ["share a 7"] * 40]
        told += [["share a " + str(LONG), "share b " + str(-LONG), "share c 0"]]
        for rows in told:
            self.assertEqual(index_of(read_sharing, PAIRS, "\n".join(rows)), len(rows))

    def test_line_feeds(self):
        text = "\n".join(self.by_hand(PAIRS, (7, -1, 0)))
        self.assertEqual([index_of(read_sharing, PAIRS, told) for told in (text, text + "\n", "\n" + text, "", "\n")], [None, 3, 0, 0, 0])


class Weights(unittest.TestCase):
    def by_hand(self, weights):
        return [f"order {weight} " + " ".join(order) for order, weight in weights]

    def some_weights(self, game):
        orders = all_orders(game.people)
        return [
            tuple((order, at + 1) for at, order in enumerate(orders)), ((orders[0], LONG),), ((orders[-1], 1),),
            tuple((order, LONG - at) for at, order in enumerate(orders[::3])),
        ]

    def test_there_and_back(self):
        for game in (PAIRS, MOST, wild(("k",), 1), wild(("a", "b"), 1), wild(PEOPLE[3], 2), wild(PEOPLE[-1], 2)):
            for weights in self.some_weights(game):
                text = unchanged(self, write_weights, game, weights)
                self.assertEqual(text.split("\n"), self.by_hand(weights))
                self.assertTrue(same(unchanged(self, read_weights, game, text), weights))

    def test_long_weights(self):
        abc, cba = ("a", "b", "c"), ("c", "b", "a")
        for weights in (((abc, LONG + 1),), ((abc, 1), (cba, 10 ** 99)), ((abc, 10 ** 80), (cba, 1))):
            self.assertIs(raised(write_weights, PAIRS, weights).__class__, InvalidOperation)
        # That they are no weights comes ahead.
        for weights in (((abc, LONG + 1), (abc, 1)), ((cba, LONG + 1), (abc, 1)), ((abc, LONG + 1), (cba, 0)), ((abc, -LONG - 1),), ((abc, True),)):
            self.assertIs(raised(write_weights, PAIRS, weights).__class__, InvalidWeights)
        self.assertEqual(index_of(read_weights, PAIRS, f"order {LONG + 1} a b c"), 0)

    def test_lines_that_have_no_form(self):
        lines = ["order 1 a b c", "order 2 b a c", "order 3 c b a"]
        wrong = ["", " ", "order", "order 1", "order a", "order a b c", "order a 1", "order 1 1 a", "order 1 a 1", "share a 1", "worth a 1", "persons a"]
        wrong += ["order 1  a b c", "order  1 a b c", "order 1 a b c ", " order 1 a b c", "Order 1 a b c", "1 a b c", "order 1 a B c"]
        wrong += [f"order {number} a b c" for number in NO_NUMBERS] + [f"order 1 {name}" for name in NO_NAMES] + [f"order 1 a {name}" for name in NO_NAMES]
        for line in wrong:
            for at in range(3):
                self.assertEqual(index_of(read_weights, PAIRS, changed(lines, at, line)), at, line)
            self.assertEqual(index_of(read_weights, PAIRS, "\n".join(lines + [line])), 3)

    def test_each_line_is_right_but_no_weights_have_the_text(self):
        told = (
            ["order 0 a b c"], ["order -1 a b c"], ["order 1 a b"], ["order 1 a b c d"], ["order 1 a b b"], ["order 1 a b d"], ["order 1 a"],
            ["order 1 a b c", "order 1 a b c"], ["order 1 b a c", "order 1 a b c"], ["order 1 a b c", "order 0 b a c"], ["order 1 abc"],
            ["order 1 a b c", "order 2 a b c"], ["order 1 " + "a " * 1980 + "a"],
        )
        for rows in told:
            self.assertEqual(index_of(read_weights, PAIRS, "\n".join(rows)), len(rows), rows)

    def test_line_feeds(self):
        text = "order 1 a b c\norder 1 c b a"
        self.assertEqual([index_of(read_weights, PAIRS, told) for told in (text, text + "\n", "\n" + text, "", "\n")], [None, 2, 0, 0, 0])


def text_by_hand(value):
    """The text of a value that has one."""
    if value in (True, False, None) and value.__class__ is not int:
        return {True: "yes", False: "no", None: "none"}[value]
    if value.__class__ is int:
        return str(value)
    if value.__class__ is str:
        return "=" + value
    if value.__class__ is tuple:
        return "( " + "".join(text_by_hand(part) + " " for part in value) + ")"
    return "{ " + "".join(text_by_hand(key) + " " + text_by_hand(value[key]) + " " for key in sorted(value, key=repr)) + "}"


def some_value(source, depth, in_key=False):
    """A value of at most so many tuples and dicts one in another."""
    kind = source.choice(("tuple", "tuple", "dict", "single", "single"))
    if kind == "tuple" and depth > 0:
        return tuple(some_value(source, depth - 1, in_key) for _ in range(source.randrange(4)))
    if kind == "dict" and depth > 0 and not in_key:
        return {some_value(source, depth - 1, True): some_value(source, depth - 1) for _ in range(source.randrange(4))}
    return source.choice((True, False, None, 0, 1, 7, -3, LONG, -LONG, "a", "abcdefgh", "yes", "no", "none", "z"))


def alternating(depth):
    """Dicts and tuples by turns, so many one in another."""
    value = ()
    for at in range(depth - 1):
        value = {"a": value} if at % 2 else (value, 1)
    return value


GOOD = (
    (), {}, ((),), ({},), {"a": {}}, {(): ()}, True, False, None, 0, 1, -1, LONG, -LONG, "a", "none", "yes", ("yes", True), (1, True, "a"), {1: True, 0: False},
    {True: 1, False: 0}, {None: None}, {"a": 1, "b": 2}, {10: 1, 9: 2}, {-1: 1, 1: 2, 0: 3}, {("a",): 1, ("a", "b"): 2, (): 3}, {"b": 1, 7: 2, None: 3, True: 4, (1,): 5},
    ("mixture", ((("a", "b"), 2), (("b", "a"), 10 ** 50))), alternating(8), alternating(7), {((1, (2, (3, ()))),): ({"a": ((),)},)},
)


class Values(unittest.TestCase):
    def test_there_and_back(self):
        source = random.Random(3)
        values = list(GOOD) + [some_value(source, 8) for _ in range(900)] + [some_value(source, 3) for _ in range(900)]
        values += [{group: group for group in some_groups(PEOPLE[-1])}, nested(8)]
        for value in values:
            text = unchanged(self, write_value, value)
            self.assertEqual(text, text_by_hand(value))
            told = read_value(text)
            self.assertTrue(self.alike(told, value), (text, told))
            self.assertEqual(write_value(told), text)

    def alike(self, one, other):
        """Whether values are equal and of the same kinds, whatever the order of the keys of a dict is."""
        if one.__class__ is not other.__class__:
            return False
        if isinstance(one, tuple):
            return len(one) == len(other) and all(self.alike(part, more) for part, more in zip(one, other))
        if isinstance(one, dict):
            ones, others = sorted(one, key=repr), sorted(other, key=repr)
            return self.alike(tuple(ones), tuple(others)) and all(self.alike(one[key], other[key]) for key in ones)
        return one == other

    def test_both_orders_of_a_dict_that_is_read(self):
        for value in ({10: 1, 9: 2}, {("a",): 1, ("a", "b"): 2}, {-1: 1, 1: 2, -10: 0}):
            told = list(read_value(write_value(value)))
            self.assertIn(told, (sorted(value), sorted(value, key=repr)))
        # Only the order of the text, by repr, is that of a text.
        self.assertEqual(read_value("{ 10 1 9 2 }"), {9: 2, 10: 1})
        self.assertEqual(index_of(read_value, "{ 9 2 10 1 }"), 0)
        self.assertEqual(read_value("{ ( =a =b ) 2 ( =a ) 1 }"), {("a",): 1, ("a", "b"): 2})
        self.assertEqual(index_of(read_value, "{ ( =a ) 1 ( =a =b ) 2 }"), 0)
        self.assertEqual(write_value({("a",): 1, ("a", "b"): 2}), write_value({("a", "b"): 2, ("a",): 1}))

    def test_values_without_a_text(self):
        wrong = [
            nested(9), nested(10), alternating(9), alternating(10), ({"a": alternating(7)},), {nested_empty(8): 1},
            10 ** 60, -10 ** 60, (10 ** 60,), {10 ** 60: 1}, {1: -10 ** 60}, "", "A", "a b", "abcdefghi", "a1", ("",), {"A": 1}, {"a": "B"}, "=a", "x" * 4000,
            [], [1], (1, []), {1: []}, {"a": [1]}, PAIRS, (PAIRS,), {"a": PAIRS}, {"a": ParseError(1)}, InvalidGame("a"), Game, 1.5, (1.5,), ((("A",),),),
            ((((((((("a",),),),),),),),),), (1, 2, (3, "four five")), {("A",): 1}, {(1, (2, "")): 1},
        ]
        for value in wrong:
            self.assertIs(raised(write_value, value).__class__, InvalidOperation, value)
        for value in strange():
            if value.__class__ in (list, Game) or isinstance(value, Exception) or value.__class__ is type:
                self.assertIs(raised(write_value, value).__class__, InvalidOperation)

    def test_depth(self):
        self.assertEqual(write_value(nested(8)), "( " * 8 + "=a" + " )" * 8)
        self.assertEqual(read_value("( " * 8 + ")" + " )" * 7), nested_empty(8))
        for deep in (9, 10, 500):
            self.assertEqual(index_of(read_value, "( " * deep + ")" + " )" * (deep - 1)), 0)
            self.assertEqual(index_of(read_value, "{ =a " * (deep - 1) + "( )" + " }" * (deep - 1)), 0)
        self.assertEqual(read_value("{ =a " * 7 + "( )" + " }" * 7), alike_dicts(7))
        # Eight, and nine, the last one of them empty.
        for last, text in (((), "( )"), ({}, "{ }")):
            for wrap, begin, end in ((lambda value: (value,), "( ", " )"), (lambda value: {"a": value}, "{ =a ", " }"), (lambda value: {1: 2, "a": value}, "{ =a ", " 1 2 }")):
                value = last
                for _ in range(7):
                    value = wrap(value)
                self.assertEqual(write_value(value), begin * 7 + text + end * 7)
                self.assertEqual(read_value(begin * 7 + text + end * 7), value)
                self.assertIs(raised(write_value, wrap(value)).__class__, InvalidOperation)
                self.assertEqual(index_of(read_value, begin * 8 + text + end * 8), 0)
        # The key of a dict is in the dict.
        self.assertEqual(read_value("{ " + "( " * 7 + ") " * 7 + "1 }"), {nested_empty(7): 1})
        self.assertEqual(index_of(read_value, "{ " + "( " * 8 + ") " * 8 + "1 }"), 0)
        self.assertEqual(write_value({nested_empty(7): 1}), "{ " + "( " * 7 + ") " * 7 + "1 }")
        self.assertIs(raised(write_value, {nested_empty(8): 1}).__class__, InvalidOperation)

    def test_texts_of_no_value(self):
        wrong = [
            "", " ", "a", "=", "=A", "==a", "= a", "=abcdefghi", "=a1", "Yes", "yes no", "1 2", "( ) ( )", "(", ")", "( (", "( ) )", ") (", "{", "}", "( }", "{ )",
            "()", "( )  ", " ( )", "( ) ", "(  )", "( 1  2 )", "( 1, 2 )", "{}", "{ 1 }", "{ 1 2 3 }", "{ 1 2 1 3 }", "{ 1 2 yes 3 }", "{ yes 3 1 2 }", "{ 0 1 no 2 }",
            "{ no 2 0 1 }", "{ ( 1 ) 1 ( yes ) 2 }", "{ ( 1 ) 1 ( 1 ) 1 }", "{ { } 1 }", "{ ( { } ) 1 }", "{ ( 1 ( { } ) ) 1 }", "{ =b 1 =a 2 }", "{ 2 1 1 1 }",
            "{ =a 1 none 2 7 3 }", "( =a =b", "=a )", "True", "None", "[ ]", "'a'", "a b", "( a )", "{ a 1 }", "( = )", "( =a. )", "\t", "( )\r", "( \t)",
        ]
        for line in wrong + list(NO_NUMBERS[:-1]) + [f"( {number} )" for number in NO_NUMBERS[:-1] if number]:
            self.assertEqual(index_of(read_value, line), 0, line)
            for more in ("\n", "\n\n", "\n1", "\n( )"):
                self.assertEqual(index_of(read_value, line + more), 0)

    def test_more_lines(self):
        for line in ("1", "( )", "{ =a 1 }", "none", "=a"):
            for more in ("\n", "\n\n", "\n1", "\nx", "\n" + line, "\n ", "\n" * 3000):
                self.assertEqual(index_of(read_value, line + more), 1)
            self.assertEqual(index_of(read_value, "\n" + line), 0)

    def test_numbers(self):
        for number in NUMBERS:
            self.assertTrue(same(read_value(number), int(number)))
            self.assertEqual(write_value(int(number)), number)
        self.assertEqual([read_value(word) for word in ("yes", "no", "none", "=yes", "=no", "=none")], [True, False, None, "yes", "no", "none"])

    def test_long_texts(self):
        for text in ("( " * 2000, ") " * 2000, "{ " * 2000, "( " * 999 + ")" * 999, "1" * 4000, "=" * 4000, "x" * 4000, " " * 4000, "1 " * 2000):
            self.assertEqual(index_of(read_value, text), 0)
        wide = "( " + "1 " * 1990 + ")"
        self.assertEqual(read_value(wide), (1,) * 1990)
        value = {at: at for at in range(300)}
        self.assertEqual(read_value(write_value(value)), value)

    def test_no_state_is_shared(self):
        value = {"a": {"b": 1}}
        text = write_value(value)
        value["a"]["b"] = 2
        told = read_value(text)
        told["a"]["b"] = 3
        self.assertEqual(read_value(text), {"a": {"b": 1}})


def nested_empty(depth):
    value = ()
    for _ in range(depth - 1):
        value = (value,)
    return value


def alike_dicts(depth):
    value = ()
    for _ in range(depth):
        value = {"a": value}
    return value


class Errors(unittest.TestCase):
    def no_texts(self):
        return [value for value in strange() if not isinstance(value, str)]

    def test_wrong_arguments(self):
        more = {
            "text": (lambda game: self.no_texts(), InvalidOperation, None),
            "weights": (lambda game: strange() + [((game.people, 0),), ((game.people, True),), [(game.people, 1)], ((game.people, 1), (game.people, 1))], InvalidWeights, None),
            "value": (lambda game: no_sharings(game), InvalidSharing, None),
        }
        for game in (PAIRS, MOST, wild(("k",), 3), wild(PEOPLE[-1], 2)):
            refused(self, write_game, (game,), "game")
            refused(self, write_sharing, (game, sharing_of(game, 2)), "game value", more)
            refused(self, write_weights, (game, ((game.people, 1),)), "game weights", more)
            refused(self, read_sharing, (game, "share a 1"), "game text", more)
            refused(self, read_weights, (game, "order 1 a"), "game text", more)
        for value in self.no_texts():
            for call in (read_game, read_value):
                self.assertIs(raised(call, value).__class__, InvalidOperation)

    def test_what_comes_last(self):
        # A wrong game decides ahead of a wrong text.
        for call in (read_sharing, read_weights):
            self.assertIs(raised(call, None, "x").__class__, InvalidGame)
            self.assertIs(raised(call, None, None).__class__, InvalidGame)
            self.assertEqual(index_of(call, PAIRS, "x"), 0)


if __name__ == "__main__":
    unittest.main()
