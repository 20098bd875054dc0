"""Integers, ratios, and what is within a value: points [1] and [2]."""

from math import gcd

FARTHEST = 999999


def is_integer(value):
    """Tell whether value is an integer; a bool is none here."""
    return isinstance(value, int) and not isinstance(value, bool)


def is_between(value, low, high):
    """Tell whether value is an integer from low up to high."""
    return is_integer(value) and low <= value <= high


def ratio_of(top, bottom):
    """The ratio of two integers, brought down; bottom is more than 0."""
    common = gcd(top, bottom)
    return (top // common, bottom // common)


def is_ratio(value):
    """Tell whether value, which may be anything, is a ratio of integers from -FARTHEST to FARTHEST."""
    if not isinstance(value, tuple) or len(value) != 2:
        return False
    top, bottom = value
    if not is_between(top, -FARTHEST, FARTHEST) or not is_between(bottom, 1, FARTHEST):
        return False
    return gcd(top, bottom) == 1


def is_less(one, other):
    """Tell whether a ratio is less than another one, as numbers."""
    return one[0] * other[1] < other[0] * one[1]


def plain(value):
    """The value, each tuple in it as one of no class of its own."""
    if isinstance(value, tuple):
        return tuple([plain(member) for member in value])
    return value


def has_bool(value):
    """Tell whether a value of tuples has a bool in it."""
    if isinstance(value, tuple):
        return any([has_bool(member) for member in value])
    return isinstance(value, bool)
