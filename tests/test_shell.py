"""[0.4], [1.3], stage 18: the shell."""

import random
import unittest

from joinmore.base.games import Game
from joinmore.base.gaps import broken, is_growing
from joinmore.desk.desk import Desk
from joinmore.errors import (
    InvalidNumber, InvalidOperation, InvalidSharing, Left, NothingToUndo, NotGrowing, ParseError, UnknownName,
)
from joinmore.pay.bounds import room, tight
from joinmore.pay.papers import is_paper
from joinmore.pay.pays import pay, pays
from joinmore.pay.sharings import leaving
from joinmore.pay.verdict import is_game_paper
from joinmore.text.formats import read_value, write_game, write_value
from joinmore.text.shell import Shell
from tests.cases import (
    MOST, PAIRS, PEOPLE, STEPS, all_groups, broken_by_hand, by_size, growing, left_by_hand, no_games, other_games, strange, tight_by_hand, walked,
    wild,
)
from tests.refusals import raised

LONG = 10 ** 60 - 1
HIGH = 10 ** 9
NO_NUMBERS = ("-0", "00", "07", "-07", "+1", "1.0", "1e3", "1_0", "--1", "-", "1-", "1" * 61, "-" + "1" * 61)
NO_NAMES = ("A", "a1", "abcdefghi", "a-b", "a,", "=a", "(", "a\n", "a\nb")


def joined(values):
    return " ".join(str(value) for value in values)


def told_test(test):
    group, one, other = test
    return f"{one} {other}, {joined(group)}" if group else f"{one} {other}"


def lines_of(lines):
    return "\n".join(lines) or "none"


def word_for(error):
    """The answer that tells an error."""
    if isinstance(error, UnknownName):
        return "unknown " + error.name
    if isinstance(error, InvalidNumber):
        return f"number {error.value}"
    if isinstance(error, InvalidOperation):
        return "operation"
    if isinstance(error, InvalidSharing):
        return "sharing"
    if isinstance(error, NotGrowing):
        return "broken " + told_test(error.test)
    if isinstance(error, Left):
        return "left " + joined(error.group)
    if isinstance(error, NothingToUndo):
        return f"undo {error.many}"
    raise AssertionError(error)


def kept(desk):
    if desk.sharing is None:
        raise InvalidOperation("none is kept")
    return desk.sharing


# What each command does at a desk, with its numbers and names.
DONE = {
    "set": lambda desk, numbers, names: desk.put(names, numbers[0]),
    "hold": lambda desk, numbers, names: desk.hold(),
    "release": lambda desk, numbers, names: desk.release(),
    "keep": lambda desk, numbers, names: desk.keep(numbers),
    "forget": lambda desk, numbers, names: desk.forget(),
    "give": lambda desk, numbers, names: desk.give(names[0], names[1], numbers[0]),
    "undo": lambda desk, numbers, names: desk.undo(many=numbers[0] if numbers else 1),
    "redo": lambda desk, numbers, names: desk.redo(many=numbers[0] if numbers else 1),
}
TOLD = {
    "game": lambda desk, numbers, names: write_game(desk.game),
    "sharing": lambda desk, numbers, names: "none" if desk.sharing is None else joined(desk.sharing),
    "held": lambda desk, numbers, names: "yes" if desk.held else "no",
    "growing": lambda desk, numbers, names: "yes" if is_growing(desk.game) else "no",
    "worth": lambda desk, numbers, names: str(desk.game[names]),
    "broken": lambda desk, numbers, names: lines_of([told_test(test) for test in broken(desk.game)]),
    "pay": lambda desk, numbers, names: joined(pay(desk.game, names)),
    "pays": lambda desk, numbers, names: lines_of([joined(row) for row in pays(desk.game)]),
    "leaving": lambda desk, numbers, names: lines_of([joined(group) for group in leaving(desk.game, numbers)]),
    "tight": lambda desk, numbers, names: lines_of([joined(group) for group in tight(desk.game, kept(desk)) if group]),
    "bounds": lambda desk, numbers, names: joined(desk.bounds(*names)),
    "room": lambda desk, numbers, names: str(room(desk.game, kept(desk), *names)),
    "paper": lambda desk, numbers, names: write_value(desk.paper()),
}
# How many numbers and names can stand behind each word: a pair of tests.
MANY = {
    "set": (lambda many: many == 1, lambda many: many >= 1), "keep": (lambda many: many >= 1, lambda many: many == 0),
    "give": (lambda many: many == 1, lambda many: many == 2), "undo": (lambda many: many <= 1, lambda many: many == 0),
    "redo": (lambda many: many <= 1, lambda many: many == 0), "worth": (lambda many: many == 0, lambda many: many >= 1),
    "pay": (lambda many: many == 0, lambda many: many >= 1), "leaving": (lambda many: many >= 1, lambda many: many == 0),
    "bounds": (lambda many: many == 0, lambda many: many == 1), "room": (lambda many: many == 0, lambda many: many == 2),
}
PLAIN = ("hold", "release", "forget", "game", "sharing", "held", "growing", "broken", "pays", "tight", "paper", "verdict")


def expected_for(desk, word, numbers, names):
    """The answer to a right line, by the same call at a desk."""
    try:
        if word in DONE:
            DONE[word](desk, numbers, names)
            return "done"
        return TOLD[word](desk, numbers, names)
    except (ValueError, LookupError, ArithmeticError) as error:
        return word_for(error)


GAMES = [
    PAIRS, STEPS, MOST, Game(("k",), {("k",): -4}), by_size(("a", "b"), [0, 0, 9]), wild(("a", "b", "c"), 5), growing(PEOPLE[3], 2), wild(PEOPLE[3], 1),
    growing(PEOPLE[-1], 7),
]


class Rows(unittest.TestCase):
    def some_line(self, source, desk):
        """A right line, and its word, numbers and names."""
        game = desk.game
        word = source.choice(
            ("set",) * 5 + ("keep",) * 4 + ("give",) * 4 + ("undo", "redo", "undo", "hold", "hold", "release", "forget", "tight", "tight", "room", "room")
            + tuple(TOLD)
        )
        people = game.people
        numbers, names = (), ()
        if word in ("set", "worth"):
            names = source.choice(all_groups(people)[1:])
            numbers = (game[names] + source.choice((-2, -1, 0, 1, 1, 3)),) if word == "set" else ()
            if source.random() < 0.1:
                names = source.choice((names[::-1], names + names, names + ("zz",), ("none",), people + ("zz",)))
            if source.random() < 0.1 and word == "set":
                numbers = (source.choice((HIGH, HIGH + 1, -HIGH - 1, LONG, -LONG)),)
        if word in ("keep", "leaving"):
            order = list(people)
            source.shuffle(order)
            numbers = walked(game, order)
            if source.random() < 0.3:
                numbers = source.choice((numbers[1:] + numbers[:1], numbers + (0,), (LONG,) * len(people), numbers[:-1] + (numbers[-1] + 1,), (7,)))
        if word in ("give", "room", "bounds"):
            names = tuple(source.choice(people + (("zz",) if source.random() < 0.1 else ())) for _ in range(1 if word == "bounds" else 2))
            numbers = (source.choice((0, 1, 1, 2, 4, -1, LONG)),) if word == "give" else ()
        if word == "pay":
            names = tuple(source.sample(people, len(people))) if source.random() < 0.8 else source.choice((people[:1] * 2, people + ("zz",), ("zz",)))
        if word in ("undo", "redo"):
            numbers = source.choice(((), (), (0,), (1,), (2,), (3,), (50,), (LONG,)))
        return joined((word,) + numbers + names), word, numbers, names

    def test_long_rows(self):
        seen = set()
        for seed, game in enumerate(GAMES):
            for turn in range(3):
                source = random.Random(10 * seed + turn)
                shell, desk = Shell(write_game(game)), Desk(game)
                for _ in range(150):
                    line, word, numbers, names = self.some_line(source, desk)
                    by_call = source.random() < 0.5
                    expected = expected_for(desk, word, numbers, names)
                    told = shell(line) if by_call else shell.answer(line)
                    self.assertEqual((told.__class__, told), (str, expected), line)
                    self.assertEqual(shell.desk(), desk)
                    self.assertEqual(shell.desk().undo(many=0), desk.undo(many=0))
                    seen.add((word, told.split(" ")[0] if word in DONE or told.split(" ")[0] in ("unknown", "operation", "left") else "told"))
                    if source.random() < 0.2:
                        wrong = self.wrong_line(source, line)
                        self.assertEqual(shell(wrong), "what", wrong)
                        self.assertEqual(shell.desk(), desk)
                    verdict = shell("verdict")
                    self.assertIs(is_game_paper(desk.game, read_value(verdict)), True)
        for word, told in (
            ("set", "done operation number broken left"), ("hold", "done broken"), ("release", "done operation"), ("keep", "done sharing left"),
            ("forget", "done operation"), ("give", "done operation unknown number"), ("undo", "done undo"), ("redo", "done undo"),
            ("tight", "told operation"), ("room", "told operation unknown"), ("bounds", "told unknown"), ("worth", "told operation"), ("pay", "told operation"),
        ):
            for one in told.split():
                self.assertIn((word, one), seen)

    def wrong_line(self, source, line):
        """A line that is near to a right one, but has no form."""
        first = line.split(" ")[0]
        return source.choice((
            " " + line, line + " ", line.replace(" ", "  ", 1) + " ", line + " A", line + " 07", line + "\n", line + "\n" + line, line.upper(), "x" + line,
            line + " +1", first + " " + first + "!", line + ",", "=" + line, line + " -0", line + "\t", line + " " + "1" * 61,
        ))

    def test_papers(self):
        for game in GAMES:
            if broken_by_hand(game):
                continue
            shell = Shell(write_game(game))
            for order in ((), (1,)):
                sharing = walked(game, game.people[::-1] if order else game.people)
                self.assertEqual(shell("keep " + joined(sharing)), "done")
                told = read_value(shell("paper"))
                self.assertEqual(told[0], "mixture")
                self.assertIs(is_paper(game, sharing, told), True)
                self.assertEqual(shell("tight"), lines_of([joined(group) for group in tight_by_hand(game, sharing) if group]))


class Forms(unittest.TestCase):
    def shell(self):
        shell = Shell(write_game(PAIRS))
        for line in ("hold", "keep 2 2 2"):
            self.assertEqual(shell(line), "done")
        return shell

    def test_words_too_few_and_too_many(self):
        shell = self.shell()
        before = shell.desk()
        for word in tuple(MANY) + PLAIN:
            for numbers in range(4):
                for names in range(4):
                    right = MANY[word][0](numbers) and MANY[word][1](names) if word in MANY else numbers == names == 0
                    line = joined((word,) + (0,) * numbers + ("a", "b", "c")[:names])
                    self.assertEqual(shell(line) == "what", not right, line)
                    if names and numbers:
                        # Names never stand ahead of numbers.
                        self.assertEqual(shell(joined((word,) + ("a", "b", "c")[:names] + (0,) * numbers)), "what")
        self.assertEqual(before == self.shell().desk(), True)

    def test_blanks_and_empty_words(self):
        shell = self.shell()
        for line in ("set 0 a b", "keep 2 2 2", "give 0 a b", "undo 0", "worth a b", "pay b a c", "leaving 6 0 0", "bounds a", "room a b", "hold", "game"):
            self.assertNotEqual(shell(line), "what")
            for wrong in (" " + line, line + " ", line + "  ", line.replace(" ", "  "), line.replace(" ", "\t"), line + "\n", "\n" + line, line + "\r", line + "\n" + line):
                if wrong != line:
                    self.assertEqual(shell(wrong), "what", wrong)
        for line in ("", " ", "\n", "x", "What", "what", "none", "done", "SET 0 a", "sets 0 a", "quit", "a", "7", "set", "x" * 4000, " " * 4000, "set " * 1000):
            self.assertEqual(shell(line), "what")

    def test_other_values(self):
        shell = self.shell()
        for value in strange():
            if not isinstance(value, str):
                self.assertEqual(shell(value), "what")
                self.assertEqual(shell.answer(value), "what")
        for value in ([ "hold"], ("hold",), {"hold": 1}, None, 0, True, PAIRS, shell):
            self.assertEqual(shell(value), "what")

    def test_numbers(self):
        shell = self.shell()
        for number in NO_NUMBERS:
            for line in (f"set {number} a", f"keep {number}", f"keep 2 2 {number}", f"give {number} a b", f"undo {number}", f"redo {number}", f"leaving 6 0 {number}"):
                self.assertEqual(shell(line), "what", line)
        for number in (LONG, -LONG, HIGH + 1, -HIGH - 1):
            self.assertEqual(shell(f"set {number} a"), f"number {number}")
            self.assertEqual(shell(f"keep {number}"), "sharing")
        self.assertEqual([shell(f"keep {LONG} 0 {6 - LONG}"), shell(f"keep {6 - LONG} 0 {LONG}"), shell("keep 2 2 2")], ["left b c", "left a", "done"])
        self.assertEqual(shell(f"give {LONG} a b"), "operation")
        self.assertEqual(shell(f"undo {LONG}"), f"undo {LONG}")
        self.assertEqual([shell("give -1 a b"), shell("give 0 a b"), shell("give -1 a a"), shell("give 3 a b")], ["number -1", "done", "operation", "operation"])

    def test_undo_and_redo(self):
        shell = self.shell()
        told = [shell(line) for line in ("undo 0", "undo -1", "redo -1", "undo 3", "redo", "undo", "sharing", "redo", "sharing", "redo 0", "redo 1", "undo 2", "held")]
        self.assertEqual(told, ["done", "what", "what", "undo 3", "undo 1", "done", "none", "done", "2 2 2", "done", "undo 1", "done", "no"])
        told = [shell(line) for line in ("redo", "held", "set -1 a", "redo", "undo 2", "redo 3", "redo 2", "worth a", "held")]
        self.assertEqual(told, ["done", "yes", "done", "undo 1", "done", "undo 3", "done", "-1", "yes"])

    def test_names_and_groups(self):
        shell = self.shell()
        for line in ("set 0 b a", "set 0 a a", "set 0 zz", "worth b a", "worth a a", "worth zz", "worth a zz", "pay a b", "pay a b c a", "pay a b b", "pay zz"):
            self.assertEqual(shell(line), "operation", line)
        for name in NO_NAMES:
            for line in (f"set 0 {name}", f"set 0 a {name}", f"worth {name}", f"pay {name}", f"bounds {name}", f"room a {name}", f"give 0 {name} b"):
                self.assertEqual(shell(line), "what", line)
        told = [shell(line) for line in ("bounds zz", "room zz b", "room a zz", "room zz yy", "room a a", "give 1 zz yy", "give -1 a zz", "give -1 zz a")]
        self.assertEqual(told, ["unknown zz", "unknown zz", "unknown zz", "unknown zz", "operation", "unknown zz", "unknown zz", "unknown zz"])
        self.assertEqual([shell("forget"), shell("room a zz"), shell("room a a"), shell("give -1 zz a"), shell("paper"), shell("forget")], ["done"] + ["operation"] * 5)

    def test_persons_with_the_names_of_commands(self):
        game = Game(("hold", "none", "set"), {group: len(group) for group in all_groups(("hold", "none", "set")) if group})
        shell = Shell(write_game(game))
        told = [shell(line) for line in ("set 5 hold none set", "worth hold set", "pay set hold none", "bounds none", "keep 1 1 3", "room set none", "tight")]
        self.assertEqual(told, ["done", "2", "1 3 1", "1 3", "done", "2", "hold\nhold none\nhold none set\nnone"])


class Answers(unittest.TestCase):
    def test_none(self):
        shell = Shell(write_game(PAIRS))
        self.assertEqual([shell(line) for line in ("sharing", "broken", "leaving 2 2 2", "leaving 6 0 0")], ["none", "none", "none", "b c"])
        shell = Shell(write_game(MOST))
        told = [shell("leaving 0 4 2"), shell("broken"), shell("growing"), shell("held"), shell("keep 2 2 2"), shell("sharing"), shell("hold"), shell("paper"), shell("bounds a")]
        first = "broken b c, a"
        self.assertEqual(told, ["a c", "b c, a\na c, b\na b, c", "no", "no", "done", "2 2 2", first, first, first])
        self.assertEqual(read_value(shell("verdict"))[0], "left")

    def test_tests_with_and_without_a_group(self):
        seen = set()
        for game in other_games() + GAMES:
            shell = Shell(write_game(game))
            expected = [told_test(test) for test in broken_by_hand(game)]
            self.assertEqual(shell("broken"), lines_of(expected))
            self.assertEqual(shell("growing"), "no" if expected else "yes")
            self.assertEqual(shell("hold"), "broken " + expected[0] if expected else "done")
            seen.update(len(test[0]) for test in broken_by_hand(game))
        self.assertEqual(seen, {0, 1, 2, 3})

    def test_lines(self):
        for game in GAMES:
            shell = Shell(write_game(game))
            self.assertEqual(shell("game"), write_game(game))
            self.assertEqual(shell("pays"), "\n".join(joined(row) for row in pays(game)))
            for order in (game.people, game.people[::-1]):
                row = walked(game, order)
                self.assertEqual(shell("pay " + joined(order)), joined(row))
                self.assertEqual(shell("leaving " + joined(row)), lines_of([joined(group) for group in left_by_hand(game, row)]))
            for group in all_groups(game.people)[1:]:
                self.assertEqual(shell("worth " + joined(group)), str(game[group]))

    def test_each_word_for_an_error(self):
        shell = Shell(write_game(PAIRS))
        told = [shell(line) for line in (
            "keep 2 2 2", "set 3 a", "hold", "set 3 a", "set 5 a b", "keep 6 0 0", "keep 1 1 1", "keep 1 5", "set 7 a b c", "undo 5", "bounds x", f"set {HIGH + 1} a",
        )]
        self.assertEqual(told, [
            "done", "left a", "done", "broken a b", "broken b c, a", "left b c", "sharing", "sharing", "operation", "undo 5", "unknown x", f"number {HIGH + 1}",
        ])
        self.assertEqual([shell(line) for line in ("release", "release", "set 5 a b", "set 4 a b", "sharing", "forget", "set 9 a", "growing")], [
            "done", "operation", "left a b", "done", "2 2 2", "done", "done", "no",
        ])

    def test_the_desk_is_a_twin(self):
        shell = Shell(write_game(PAIRS))
        shell("hold")
        desk = shell.desk()
        self.assertEqual((desk.held, desk.undo(many=0)), (True, 1))
        desk.put(("a",), -1)
        self.assertEqual([shell("worth a"), shell("undo"), shell("redo"), shell("undo 2")], ["0", "done", "done", "undo 2"])
        self.assertEqual(desk.undo(many=2), 0)
        self.assertEqual(shell("held"), "yes")

    def test_made_of_texts(self):
        self.assertIs(raised(Shell, "persons a\nworth -3").__class__, ParseError)
        self.assertEqual(raised(Shell, "persons a\nworth -3").index, 1)
        self.assertEqual(raised(Shell, "persons a b\nworth a 1\nworth b 1").index, 3)
        self.assertEqual(raised(Shell, "").index, 0)
        for value in no_games() + [PAIRS]:
            if not isinstance(value, str):
                self.assertIs(raised(Shell, value).__class__, InvalidOperation)
        with self.assertRaises(TypeError):
            iter(Shell(write_game(PAIRS)))


if __name__ == "__main__":
    unittest.main()
