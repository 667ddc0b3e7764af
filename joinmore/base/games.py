"""Games: what each group of some persons gains."""

from joinmore.base.names import is_integer, is_name
from joinmore.base.rows import gaps_of, is_row, sum_for
from joinmore.base.sets import common, groups_of, is_ascending, union, without
from joinmore.errors import InvalidGame, InvalidNumber, InvalidOperation, UnknownName

MAX_PEOPLE = 5
MAX_WORTH = 10 ** 9


def is_people(value):
    """Whether the value is a set of one to five names."""
    if not isinstance(value, tuple) or not 1 <= len(value) <= MAX_PEOPLE:
        return False
    return all([is_name(person) for person in value]) and is_ascending(value)


def is_worth(value):
    """Whether the value is an integer that a group can have as its worth."""
    return is_integer(value) and -MAX_WORTH <= value <= MAX_WORTH


def are_worths(people, value):
    """Whether the value is a dict from all groups but () to worths."""
    if not isinstance(value, dict):
        return False
    groups = [group for group in groups_of(people) if group]
    if len(value) != len(groups):
        return False
    return all([group in value and is_worth(value[group]) for group in groups])


def check_people(value):
    """Refuse what is no set of one to five names."""
    if not is_people(value):
        raise InvalidGame("the persons are no set of one to five names")


def check_game(value):
    """Refuse what is no game."""
    if not isinstance(value, Game):
        raise InvalidGame("this is no game")


def check_group(game, value):
    """Refuse what is no group of the game."""
    if value not in game.groups:
        raise InvalidOperation("this is no group of the game")


def check_some(game, value):
    """Refuse what is no group of the game, and the group of nobody."""
    check_group(game, value)
    if not value:
        raise InvalidOperation("the group of nobody does not do here")


def check_person(game, value):
    """Refuse what is no person of the game."""
    if value not in game:
        raise UnknownName(value)


def game_of(people, row):
    """The game of these persons by the worths of all groups in their order, that of () the first one."""
    return Game(people, {group: worth for group, worth in zip(groups_of(people), row) if group})


class Game:
    """One to five persons, and a worth for each group of them."""

    def __init__(self, people, worths):
        check_people(people)
        if not are_worths(people, worths):
            raise InvalidGame("the worths are no dict from all groups to worths")
        self._people = people
        self._groups = groups_of(people)
        self._worths = {group: worths.get(group, 0) for group in self._groups}
        self._row = tuple([self._worths[group] for group in self._groups])
        self._gaps = None

    @classmethod
    def additive(cls, people, amounts):
        """The game in which each group has the sum of its persons' amounts."""
        check_people(people)
        if not is_row(people, amounts):
            raise InvalidGame("the amounts are no tuple of one integer for each person")
        worths = {group: sum_for(people, amounts, group) for group in groups_of(people) if group}
        return cls(people, worths)

    @property
    def people(self):
        """The persons, ascending."""
        return self._people

    @property
    def groups(self):
        """All groups, ascending, () among them."""
        return self._groups

    @property
    def row(self):
        """The worths of all groups, in the order of the groups."""
        return self._row

    @property
    def gaps(self):
        """The gaps of all tests, in the order of the tests; they are asked for often, so they are found once."""
        if self._gaps is None:
            self._gaps = gaps_of(self._row)
        return self._gaps

    def worth_of(self, persons):
        """The worth of the group of some persons, who stand in any order."""
        return self._worths[tuple(sorted(persons))]

    def __getitem__(self, at):
        check_group(self, at)
        return self._worths[at]

    def __contains__(self, x):
        return x in self._people

    def __iter__(self):
        return iter(self._people)

    def __len__(self):
        return len(self._people)

    def __eq__(self, other):
        # The groups are the keys of the worths, so equal worths tell equal persons, too.
        return isinstance(other, Game) and self._worths == other._worths

    def __str__(self):
        return f"game of {len(self._people)} persons, {self._worths[self._people]} in all"

    def __repr__(self):
        worths = {group: self._worths[group] for group in self._groups if group}
        return f"Game({self._people!r}, {worths!r})"

    def with_worth(self, group, worth):
        """The game with another worth of a group."""
        check_some(self, group)
        if not is_worth(worth):
            raise InvalidNumber(worth)
        worths = {part: self._worths[part] for part in self._groups if part}
        worths[group] = worth
        return Game(self._people, worths)

    def only(self, group):
        """The game of a group alone."""
        check_some(self, group)
        return Game(group, {part: self._worths[part] for part in groups_of(group) if part})

    def renamed(self, names):
        """The game with other names for some persons."""
        if not isinstance(names, dict):
            raise InvalidOperation("the names are no dict")
        if not all([person in self._people and is_name(names[person]) for person in names]):
            raise InvalidOperation("the names do not lead from persons to names")
        told = {person: names.get(person, person) for person in self._people}
        people = tuple(sorted([told[person] for person in self._people]))
        if not is_ascending(people):
            raise InvalidOperation("two persons would have one name")
        worths = {}
        for group in self._groups:
            if group:
                worths[tuple(sorted([told[person] for person in group]))] = self._worths[group]
        return Game(people, worths)

    def turned(self):
        """The game in which each group has what the others leave of the worth of all."""
        total = self._worths[self._people]
        rest = {group: without(self._people, group) for group in self._groups if group}
        return Game(self._people, {group: total - self._worths[rest[group]] for group in rest})

    def __add__(self, other):
        if not isinstance(other, Game) or self._people != other.people:
            raise InvalidOperation("only a game of the same persons can be added")
        return Game(self._people, {group: self._worths[group] + other[group] for group in self._groups if group})

    def __mul__(self, other):
        if not is_integer(other) or other < 0:
            raise InvalidNumber(other)
        return Game(self._people, {group: self._worths[group] * other for group in self._groups if group})

    def beside(self, other):
        """The game of the persons of both games, who gain nothing by each other."""
        check_game(other)
        people = union(self._people, other.people)
        if common(self._people, other.people) or len(people) > MAX_PEOPLE:
            raise InvalidOperation("the games have a common person, or too many together")
        here = {group: self._worths[common(group, self._people)] for group in groups_of(people)}
        return Game(people, {group: here[group] + other[common(group, other.people)] for group in here if group})
