"""Amounts between the worths of a growing game and those of a shrinking one, person by person, as [13.2] tells.

The worths are told by a row for all groups of the persons who have no amount yet.
"""

from joinmore.base.rows import halves


def span_of(low, high):
    """The least and the greatest integer that the first person can have."""
    low_without, low_with = halves(low)
    high_without, high_with = halves(high)
    least = max([worth - other for worth, other in zip(low_with, high_without)])
    greatest = min([worth - other for worth, other in zip(high_with, low_without)])
    return least, greatest


def behind(low, high, amount):
    """The rows of worths for the other persons, when the first one has this amount."""
    low_without, low_with = halves(low)
    high_without, high_with = halves(high)
    next_low = [max(alone, joined - amount) for alone, joined in zip(low_without, low_with)]
    next_high = [min(alone, joined - amount) for alone, joined in zip(high_without, high_with)]
    return next_low, next_high


def first_between(low, high):
    """The first amounts between, in Python's order."""
    amounts = ()
    while len(low) > 1:
        least, _ = span_of(low, high)
        low, high = behind(low, high, least)
        amounts = amounts + (least,)
    return amounts


def all_between(low, high, limit):
    """All amounts between, ascending, or None if there are more than the limit."""
    begun = [((), low, high)]
    while len(begun[0][1]) > 1:
        spans = [span_of(below, above) for _, below, above in begun]
        # Each integer of a span leads to amounts, so too many of them tell it at once.
        if sum([greatest - least + 1 for least, greatest in spans]) > limit:
            return None
        begun = [
            (amounts + (amount,),) + behind(below, above, amount)
            for (amounts, below, above), (least, greatest) in zip(begun, spans)
            for amount in range(least, greatest + 1)
        ]
    return tuple([amounts for amounts, _, _ in begun])
