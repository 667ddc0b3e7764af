"""Rows: a number for each person, or a number for each group, in their order."""

from joinmore.base.names import is_integer


def is_row(people, value):
    """Whether the value is a tuple of one integer for each person."""
    if not isinstance(value, tuple) or len(value) != len(people):
        return False
    return all([is_integer(number) for number in value])


def sum_for(people, row, group):
    """The sum of the numbers that the persons of a group have in a row."""
    return sum([number for person, number in zip(people, row) if person in group])


def sums(row):
    """The sum of the numbers for each group, by the numbers for the persons."""
    found = [0]
    # Behind () stand the groups that begin with the first person, and behind these the others.
    for number in row[::-1]:
        found = [0] + [number + told for told in found] + found[1:]
    return found


def halves(row):
    """The numbers for the groups without the first person, and for the same groups with it."""
    many = len(row) // 2
    return row[:1] + row[many + 1:], row[1:many + 1]


def dividends_of(row):
    """The dividends of all groups, by their worths: what each one has beyond the dividends of the groups in it."""
    if len(row) == 1:
        return list(row)
    alone, joined = halves(row)
    others = dividends_of(alone)
    # The groups with the first person have as dividends those of what this person brings to the groups without it.
    return others[:1] + dividends_of([more - one for one, more in zip(alone, joined)]) + others[1:]


def worths_of(row):
    """The worths of all groups, by their dividends."""
    if len(row) == 1:
        return list(row)
    alone, joined = halves(row)
    others = worths_of(alone)
    return others[:1] + [one + more for one, more in zip(others, worths_of(joined))] + others[1:]


def gaps_of(row):
    """The gaps of all tests, in the order of the tests, by the worths of all groups."""
    # A bit for each person tells each group by one number, by which groups are joined at once.
    bits = [1 << at for at in range(len(row).bit_length() - 1)]
    numbers = sums(bits)
    worths = {number: worth for number, worth in zip(numbers, row)}
    return tuple([
        worths[number | one | other] + worths[number] - worths[number | one] - worths[number | other]
        for number in numbers for at, one in enumerate(bits) for other in bits[at + 1:]
        if not number & (one | other)
    ])
