"""A desk: a game whose worths change while it stays growing, and a sharing of it while it stays kept."""

from joinmore.base.games import check_game, check_person
from joinmore.base.gaps import check_growing
from joinmore.base.names import is_integer
from joinmore.errors import InvalidNumber, InvalidOperation, NothingToUndo
from joinmore.pay.bounds import gift, greatest_share, least_share, room_of
from joinmore.pay.papers import paper
from joinmore.pay.sharings import check_kept, check_sharing


class Chain:
    """One thing on top of a chain of others. A chain never changes, so several objects can have the same one."""

    def __init__(self, top, rest):
        self.top = top
        self.rest = rest
        self.many = length(rest) + 1


def length(chain):
    """How many things are in a chain; None is that of nothing."""
    if chain is None:
        return 0
    return chain.many


class Trial:
    """A block at whose end a desk is as it was at the beginning."""

    def __init__(self, desk):
        self._desk = desk
        self._begun = None

    def __enter__(self):
        # The block may stand in itself, so each beginning is kept until its end.
        self._begun = Chain(self._desk._now, self._begun)
        return self._desk

    def __exit__(self, kind, value, trace):
        desk = self._desk
        desk._now = self._begun.top
        self._begun = self._begun.rest


class Desk:
    """A game that can be held growing, and a sharing that can be kept."""

    def __init__(self, game):
        check_game(game)
        # The state (game, sharing, held), the chain of the states before it, and that of the states taken back.
        self._now = ((game, None, False), None, None)

    @property
    def game(self):
        """The game as it is now."""
        return self._now[0][0]

    @property
    def sharing(self):
        """The kept sharing, or None."""
        return self._now[0][1]

    @property
    def held(self):
        """Whether it is held that the game stays growing."""
        return self._now[0][2]

    def __contains__(self, x):
        return x in self.game

    def __len__(self):
        return len(self.game)

    def __eq__(self, other):
        return isinstance(other, Desk) and self._now[0] == other._now[0]

    def __str__(self):
        return f"desk of {len(self.game)} persons, {self.game[self.game.people]} in all"

    def put(self, group, worth):
        """Give a group another worth."""
        game = self.game.with_worth(group, worth)
        if self.sharing is not None and game[game.people] != self.game[game.people]:
            raise InvalidOperation("the kept sharing would not sum to the worth of all")
        if self.held:
            check_growing(game)
        if self.sharing is not None:
            check_kept(game, 1, self.sharing)
        self._go(game, self.sharing, self.held)

    def hold(self):
        """Hold that the game stays growing."""
        check_growing(self.game)
        self._go(self.game, self.sharing, True)

    def release(self):
        """Hold no longer that the game stays growing."""
        if not self.held:
            raise InvalidOperation("it is not held that the game stays growing")
        self._go(self.game, self.sharing, False)

    def keep(self, sharing):
        """Keep a sharing, in the place of another one."""
        check_sharing(self.game, sharing)
        check_kept(self.game, 1, sharing)
        self._go(self.game, sharing, self.held)

    def forget(self):
        """Keep no sharing any longer."""
        self._check_keeping()
        self._go(self.game, None, self.held)

    def give(self, giver, getter, amount):
        """Let a person give another one something of the kept sharing."""
        self._check_keeping()
        self._go(self.game, gift(self.game, self.sharing, giver, getter, amount), self.held)

    def paper(self):
        """The paper of the kept sharing."""
        self._check_keeping()
        return paper(self.game, self.sharing)

    def bounds(self, person):
        """The least and the greatest share of a person in all kept sharings."""
        check_person(self.game, person)
        return least_share(self.game, (person,)), greatest_share(self.game, (person,))

    def rooms(self):
        """The dict from all pairs (giver, getter) to what can be given in the kept sharing."""
        self._check_keeping()
        people = self.game.people
        return {
            (giver, getter): room_of(self.game, 1, self.sharing, giver, getter)
            for giver in people for getter in people if giver != getter
        }

    def undo(self, *, many=1):
        """Take back so many calls; how many can be taken back then."""
        state, past, ahead = self._now
        state, past, ahead = _gone(state, past, ahead, many)
        self._now = (state, past, ahead)
        return length(past)

    def redo(self, *, many=1):
        """Do again so many calls; how many can be taken back then."""
        state, past, ahead = self._now
        state, ahead, past = _gone(state, ahead, past, many)
        self._now = (state, past, ahead)
        return length(past)

    def trial(self):
        """A block at whose end the desk is as it was at the beginning."""
        return Trial(self)

    def during(self, call):
        """What the call returns for the desk, which is then as it was before."""
        with self.trial():
            return call(self)

    def twin(self):
        """An independent copy, with all that can be undone and done again."""
        other = Desk(self.game)
        other._now = self._now
        return other

    def _check_keeping(self):
        if self.sharing is None:
            raise InvalidOperation("no sharing is kept")

    def _go(self, game, sharing, held):
        """A call comes to this state: the one until now can be gone back to, and none ahead."""
        state, past, _ = self._now
        self._now = ((game, sharing, held), Chain(state, past), None)


def _gone(state, chain, other, many):
    """The state so many steps down a chain, with what is left of the chain, and the other one with the steps on top."""
    if not is_integer(many) or many < 0:
        raise InvalidNumber(many)
    if many > length(chain):
        raise NothingToUndo(many)
    for _ in range(many):
        other = Chain(state, other)
        state = chain.top
        chain = chain.rest
    return state, chain, other
