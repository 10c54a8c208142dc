"""Kinds of plain values."""


def is_integer(value):
    """Whether any value is an INTEGER: an int, but neither True nor False."""
    return isinstance(value, int) and not isinstance(value, bool)


def is_count(value):
    """Whether any value is a COUNT: an INTEGER that is at least 0."""
    return is_integer(value) and value >= 0


def is_number(value):
    """Whether any value is a NUMBER: a COUNT of at most thirty digits."""
    return is_count(value) and value < 10 ** 30


def is_count_below(value, bound):
    """Whether any value is a COUNT below the bound."""
    return is_count(value) and value < bound


def is_row(value):
    """Whether any value is a list or a tuple."""
    return isinstance(value, (list, tuple))


def are_numbers(value, many):
    """Whether any value is a list of just so many NUMBERS."""
    return is_row(value) and len(value) == many and all([is_number(item) for item in value])
