"""Sets of persons, told as ascending tuples."""


def is_ascending(values):
    """Whether comparable values ascend strictly."""
    return all([values[at] < values[at + 1] for at in range(len(values) - 1)])


def groups_of(people):
    """All groups of a set of persons, ascending, () among them."""
    groups = [()]
    # Behind () stand the groups that begin with the first person, and behind these the others.
    for person in people[::-1]:
        groups = [()] + [(person,) + group for group in groups] + groups[1:]
    return tuple(groups)


def union(one, other):
    """The persons who are in the one group or in the other one."""
    return tuple(sorted(set(one + other)))


def common(one, other):
    """The persons who are in both groups."""
    return tuple([person for person in one if person in other])


def without(one, other):
    """The persons of the one group who are not in the other one."""
    return tuple([person for person in one if person not in other])
