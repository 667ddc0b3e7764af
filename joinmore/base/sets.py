"""Sets of persons, told as ascending tuples, and numbers for persons."""

from joinmore.base.names import is_integer


def is_ascending(values):
    """Whether comparable values ascend strictly."""
    return all([values[at] < values[at + 1] for at in range(len(values) - 1)])


def groups_of(people):
    """All groups of a set of persons, ascending, () among them."""
    groups = [()]
    for person in people:
        groups = groups + [group + (person,) for group in groups]
    return tuple(sorted(groups))


def union(one, other):
    """The persons who are in the one group or in the other one."""
    return tuple(sorted(set(one + other)))


def common(one, other):
    """The persons who are in both groups."""
    return tuple([person for person in one if person in other])


def without(one, other):
    """The persons of the one group who are not in the other one."""
    return tuple([person for person in one if person not in other])


def is_row(people, value):
    """Whether the value is a tuple of one integer for each person."""
    if not isinstance(value, tuple) or len(value) != len(people):
        return False
    return all([is_integer(number) for number in value])


def sum_for(people, row, group):
    """The sum of the numbers that the persons of a group have in a row."""
    return sum([number for person, number in zip(people, row) if person in group])
