"""The errors of the package."""


def _kept(value):
    """What an error keeps of a value: a copy, down to the innermost list."""
    # The caller may change a refused list later, and an error shares no state.
    if isinstance(value, list):
        return [_kept(part) for part in value]
    if isinstance(value, tuple):
        return tuple([_kept(part) for part in value])
    if isinstance(value, dict):
        return {key: _kept(value[key]) for key in value}
    return value


class MoreError(ValueError):
    """The base of the errors that tell of a value of a wrong form."""


class InvalidName(MoreError):
    """Something should be a name and is none."""


class InvalidGame(MoreError):
    """Something should be a game and is none, or there is no such game."""


class InvalidSharing(MoreError):
    """Something should be a sharing of the game and is none."""


class InvalidWeights(MoreError):
    """Something should be weights of orders of the game and is none."""


class InvalidOperation(MoreError):
    """The call cannot be done with these arguments, or in this state."""


class ParseError(MoreError):
    """A text is not of the form that is read; keeps the index of a line."""

    def __init__(self, index):
        self.index = _kept(index)


class InvalidNumber(IndexError):
    """Something should be a certain integer and is none; keeps it."""

    def __init__(self, value):
        self.value = _kept(value)

    def __str__(self):
        return repr(self.value)


class UnknownName(KeyError):
    """Something should be a person of the game and is none; keeps it."""

    def __init__(self, name):
        self.name = _kept(name)

    def __str__(self):
        return repr(self.name)


class TooMany(OverflowError):
    """There are more results than the limit; keeps the limit."""

    def __init__(self, limit):
        self.limit = _kept(limit)


class NothingToUndo(LookupError):
    """Fewer calls can be taken back or done again; keeps the number asked for."""

    def __init__(self, many):
        self.many = _kept(many)


class NotGrowing(ArithmeticError):
    """The game should be growing and is not; keeps a broken test."""

    def __init__(self, test):
        self.test = _kept(test)


class Left(ArithmeticError):
    """The sharing should be kept and is not; keeps a group that leaves."""

    def __init__(self, group):
        self.group = _kept(group)
