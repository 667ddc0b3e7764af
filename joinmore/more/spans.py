"""Amounts between the worths of a growing game and those of a shrinking one, person by person, as [13.2] tells.

Kept sharings are found so, too. The worths are told by a row for all groups of the persons who have no amount yet.
"""

from joinmore.base.rows import halves


def _least(low, high):
    """The least integer that the first person can have."""
    _, low_with = halves(low)
    high_without, _ = halves(high)
    return max([worth - other for worth, other in zip(low_with, high_without)])


def _behind(low, high, amount):
    """The rows of worths for the other persons, when the first one has this amount."""
    low_without, low_with = halves(low)
    high_without, high_with = halves(high)
    next_low = [max(alone, joined - amount) for alone, joined in zip(low_without, low_with)]
    next_high = [min(alone, joined - amount) for alone, joined in zip(high_without, high_with)]
    return next_low, next_high


def first_between(low, high):
    """The first amounts between, in Python's order."""
    amounts = ()
    while len(low) > 1:
        least = _least(low, high)
        low, high = _behind(low, high, least)
        amounts = amounts + (least,)
    return amounts


def all_kept(row, limit):
    """All kept sharings of a growing game, ascending, by its worths, or None if there are more than the limit."""
    many = len(row).bit_length() - 1
    if many == 1:
        return (row[1:],)
    begun = [((), row)]
    while many > 2:
        if _count(begun, many) > limit:
            return None
        begun = _begun_further(begun, many)
        many = many - 1
    if _count(begun, many) > limit:
        return None
    # What the last but one has tells what is left for the last one.
    return tuple([
        amounts + (amount, told[2] - amount)
        for amounts, told in begun for amount in range(told[1], told[2] - told[3] + 1)
    ])


def _all_behind(many):
    """Where the worth of all persons but the first one stands in a row."""
    return (1 << (many - 1)) + many - 1


def _count(begun, many):
    """How many amounts the next person can have; each of them leads to kept sharings, so too many tell it at once."""
    behind_first = _all_behind(many)
    return sum([told[many] - told[behind_first] - told[1] + 1 for _, told in begun])


def _begun_further(begun, many):
    """The amounts of one person more, each with the worths that are left for the other ones."""
    behind_first = _all_behind(many)
    found = []
    for amounts, told in begun:
        alone, joined = halves(told)
        # A person of a growing game can have each integer from its least to its greatest share [0.16].
        for amount in range(told[1], told[many] - told[behind_first] + 1):
            found.append((amounts + (amount,), [max(one, more - amount) for one, more in zip(alone, joined)]))
    return found
