"""Whole numbers: ints that are no truths."""

from math import gcd


def is_whole(thing):
    """Whether anything is a whole number."""
    return isinstance(thing, int) and not isinstance(thing, bool)


def divisor(one, other):
    """The greatest whole number that divides both; of 0 and 0 it is 0."""
    return gcd(one, other)


def down(top, bottom):
    """The greatest whole number that is not above top / bottom."""
    return top // bottom


def up(top, bottom):
    """The least whole number that is not below top / bottom."""
    return -(-top // bottom)
