"""Fractions, told by integers without a common divisor."""

from math import gcd


def common_divisor(numbers):
    """The greatest common divisor of some integers."""
    divisor = 0
    for number in numbers:
        divisor = gcd(divisor, number)
    return divisor


def fraction(above, below):
    """The fraction of two integers, the second one at least 1, without a common divisor above 1."""
    divisor = gcd(above, below)
    return above // divisor, below // divisor


def made_whole(fractions):
    """The least integer of at least 1 by which all fractions become integers, and the tuple of these."""
    many = common_multiple([below for _, below in fractions])
    return many, tuple([above * many // below for above, below in fractions])


def common_multiple(numbers):
    """The least integer of at least 1 that is a multiple of some integers of at least 1."""
    multiple = 1
    for number in numbers:
        multiple = multiple * number // gcd(multiple, number)
    return multiple
