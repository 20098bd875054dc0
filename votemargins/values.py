"""Integers and ratios: point [1]."""

from math import gcd


def is_integer(value):
    """Tell whether value is an integer; a bool is none here."""
    return isinstance(value, int) and not isinstance(value, bool)


def is_between(value, low, high):
    """Tell whether value is an integer from low up to high."""
    return is_integer(value) and low <= value <= high


def ratio_of(top, bottom):
    """The ratio of two integers, brought down; bottom is more than 0."""
    common = gcd(top, bottom)
    return (top // common, bottom // common)
