"""Exact ratios of integers, as FRACTIONS."""

from math import gcd, lcm

from flippedpoints.basics import is_integer, is_row


def is_fraction(value):
    """Whether any value is a FRACTION: a tuple (over, beneath) in lowest terms, beneath at least 1."""
    if not isinstance(value, tuple) or len(value) != 2 or not all([is_integer(part) for part in value]):
        return False
    over, beneath = value
    return beneath >= 1 and gcd(over, beneath) == 1


def are_fractions(value, many):
    """Whether any value is a list of just so many FRACTIONS."""
    return is_row(value) and len(value) == many and all([is_fraction(item) for item in value])


def fraction(over, beneath):
    """The FRACTION of two integers, beneath at least 1."""
    common = gcd(over, beneath)
    return over // common, beneath // common


def common_multiple(numbers):
    """The least common multiple of positive integers."""
    found = 1
    for number in numbers:
        found = lcm(found, number)
    return found


def common_divisor(numbers):
    """The greatest common divisor of integers."""
    found = 0
    for number in numbers:
        found = gcd(found, number)
    return found
