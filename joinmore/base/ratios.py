"""Fractions, told by integers without a common divisor."""

from math import gcd


def common_divisor(numbers):
    """The greatest common divisor of some integers."""
    divisor = 0
    for number in numbers:
        divisor = gcd(divisor, number)
    return divisor
