"""A shell: a desk that is spoken to by lines."""

from joinmore.base.gaps import broken, is_growing
from joinmore.base.names import is_name
from joinmore.desk.desk import Desk
from joinmore.errors import (
    InvalidNumber, InvalidOperation, InvalidSharing, Left, NothingToUndo, NotGrowing, UnknownName,
)
from joinmore.pay.bounds import room, tight
from joinmore.pay.pays import pay, pays
from joinmore.pay.sharings import leaving
from joinmore.pay.verdict import game_paper
from joinmore.text.formats import read_game, write_game, write_value
from joinmore.text.words import is_number, line_of, words_of

_DONE = "done"
_NONE = "none"
_WHAT = "what"


def _set(desk, numbers, names):
    desk.put(names, numbers[0])
    return _DONE


def _hold(desk, numbers, names):
    desk.hold()
    return _DONE


def _release(desk, numbers, names):
    desk.release()
    return _DONE


def _keep(desk, numbers, names):
    desk.keep(numbers)
    return _DONE


def _forget(desk, numbers, names):
    desk.forget()
    return _DONE


def _give(desk, numbers, names):
    desk.give(names[0], names[1], numbers[0])
    return _DONE


def _undo(desk, numbers, names):
    many = _many(numbers)
    if many < 0:
        return _WHAT
    desk.undo(many=many)
    return _DONE


def _redo(desk, numbers, names):
    many = _many(numbers)
    if many < 0:
        return _WHAT
    desk.redo(many=many)
    return _DONE


def _game(desk, numbers, names):
    return write_game(desk.game)


def _sharing(desk, numbers, names):
    if desk.sharing is None:
        return _NONE
    return line_of(desk.sharing)


def _held(desk, numbers, names):
    return _truth(desk.held)


def _growing(desk, numbers, names):
    return _truth(is_growing(desk.game))


def _worth(desk, numbers, names):
    return str(desk.game[names])


def _broken(desk, numbers, names):
    return _lines([_test_line(test) for test in broken(desk.game)])


def _pay(desk, numbers, names):
    return line_of(pay(desk.game, names))


def _pays(desk, numbers, names):
    return _lines([line_of(shares) for shares in pays(desk.game)])


def _leaving(desk, numbers, names):
    return _lines([line_of(group) for group in leaving(desk.game, numbers)])


def _tight(desk, numbers, names):
    return _lines([line_of(group) for group in tight(desk.game, _kept(desk)) if group])


def _bounds(desk, numbers, names):
    return line_of(desk.bounds(names[0]))


def _room(desk, numbers, names):
    return str(room(desk.game, _kept(desk), names[0], names[1]))


def _paper(desk, numbers, names):
    return write_value(desk.paper())


def _verdict(desk, numbers, names):
    return write_value(game_paper(desk.game))


# For each command: what it does, and which words can stand behind its own: n for a number, a for a name, + for more.
_COMMANDS = {
    "set": (_set, "na+"),
    "hold": (_hold, ""),
    "release": (_release, ""),
    "keep": (_keep, "n+"),
    "forget": (_forget, ""),
    "give": (_give, "naa"),
    "undo": (_undo, "", "n"),
    "redo": (_redo, "", "n"),
    "game": (_game, ""),
    "sharing": (_sharing, ""),
    "held": (_held, ""),
    "growing": (_growing, ""),
    "worth": (_worth, "a+"),
    "broken": (_broken, ""),
    "pay": (_pay, "a+"),
    "pays": (_pays, ""),
    "leaving": (_leaving, "n+"),
    "tight": (_tight, ""),
    "bounds": (_bounds, "a"),
    "room": (_room, "aa"),
    "paper": (_paper, ""),
    "verdict": (_verdict, ""),
}


class Shell:
    """A desk for the game with a text, and the answers to lines."""

    def __init__(self, game_text):
        self._desk = Desk(read_game(game_text))

    def __call__(self, line):
        return self.answer(line)

    def desk(self):
        """A twin of the desk."""
        return self._desk.twin()

    def answer(self, line):
        """The answer to a line: what its command tells, or a word for the error."""
        if not isinstance(line, str):
            return _WHAT
        try:
            return _answer(self._desk, words_of(line))
        except UnknownName as stranger:
            return f"unknown {stranger.name}"
        except InvalidNumber as wrong:
            return f"number {wrong.value}"
        except InvalidOperation:
            return "operation"
        except InvalidSharing:
            return "sharing"
        except NotGrowing as failing:
            return f"broken {_test_line(failing.test)}"
        except Left as parting:
            return f"left {line_of(parting.group)}"
        except NothingToUndo as short:
            return f"undo {short.many}"


def _answer(desk, words):
    """What the command of a line tells."""
    if words[0] not in _COMMANDS:
        return _WHAT
    shape = "".join([_sign(word) for word in words[1:]])
    if not any([_fits(shape, form) for form in _COMMANDS[words[0]][1:]]):
        return _WHAT
    action = _COMMANDS[words[0]][0]
    numbers = tuple([int(word) for word in words[1:] if is_number(word)])
    return action(desk, numbers, tuple([word for word in words[1:] if is_name(word)]))


def _sign(word):
    """The sign of a word in the form of a command."""
    if is_number(word):
        return "n"
    return "a" if is_name(word) else "?"


def _fits(shape, form):
    """Whether the words of a line have the form."""
    if not form.endswith("+"):
        return shape == form
    least = form[:-1]
    return shape == least + least[-1] * (len(shape) - len(least))


def _many(numbers):
    """How many calls are meant: one, if no number is told."""
    if numbers:
        return numbers[0]
    return 1


def _kept(desk):
    """The kept sharing of the desk."""
    if desk.sharing is None:
        raise InvalidOperation("no sharing is kept")
    return desk.sharing


def _truth(value):
    return "yes" if value else "no"


def _lines(lines):
    """The lines as one text."""
    if not lines:
        return _NONE
    return "\n".join(lines)


def _test_line(test):
    """A test as a line tells it: its two persons, and behind a comma the persons of its group."""
    group, one, other = test
    if not group:
        return line_of((one, other))
    return f"{one} {other}, {line_of(group)}"
