"""Questions about any value, asked so that True is not 1 and a list is not a tuple."""

from math import gcd

LETTERS = "abcdefghijklmnopqrstuvwxyz"
FIGURES = "0123456789"
MOST_SIGNS = 8


def is_integer(value):
    """Whether any value is an int that is not a bool."""
    return isinstance(value, int) and not isinstance(value, bool)


def is_from(value, least):
    """Whether any value is an integer from least on."""
    return is_integer(value) and value >= least


def is_between(value, least, most):
    """Whether any value is an integer from least to most."""
    return is_integer(value) and least <= value <= most


def is_tuple_of(value, many):
    """Whether any value is a tuple of so many values."""
    return isinstance(value, tuple) and len(value) == many


def is_row_of_days(value, many):
    """Whether any value is a tuple of so many DAYS."""
    return is_tuple_of(value, many) and all([is_from(day, 0) for day in value])


def is_name(value):
    """Whether any value is a NAME."""
    if not isinstance(value, str) or not 1 <= len(value) <= MOST_SIGNS:
        return False
    if value[0] not in LETTERS:
        return False
    return all([sign in LETTERS or sign in FIGURES for sign in value])


def is_one_of(names, value):
    """Whether any value is one of these NAMES, a tuple of them or the keys of a dict."""
    return isinstance(value, str) and value in names


def is_fraction(value):
    """Whether any value is a FRACTION."""
    if not is_tuple_of(value, 2):
        return False
    top, bottom = value
    return is_integer(top) and is_from(bottom, 1) and gcd(top, bottom) == 1


def is_pace(value):
    """Whether any value is a FRACTION from 0 on."""
    return is_fraction(value) and value[0] >= 0


def is_ascending(rows):
    """Whether each of the rows, which can be compared, is above the one ahead of it."""
    return all([rows[at] < rows[at + 1] for at in range(len(rows) - 1)])


def is_less(one, other):
    """Whether a FRACTION is less than another one."""
    return one[0] * other[1] < other[0] * one[1]


def fraction(top, bottom):
    """The FRACTION top / bottom, where bottom is above 0."""
    common = gcd(top, bottom)
    return (top // common, bottom // common)
