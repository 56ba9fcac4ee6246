"""Power: which groups of hands win by their seats, and how much hangs on each hand."""

from math import factorial

from wholepoll.ratios import fraction
from wholepoll.sets import all_of, holds, innermost, size, with_one


def wins(seats, group):
    """Whether a group has more than half of all seats together."""
    return 2 * sum([many for hand, many in enumerate(seats) if holds(group, hand)]) > sum(seats)


def least_winning(seats):
    """The groups, rising, that win and have none within them that does."""
    return innermost([group for group in _groups(seats) if wins(seats, group)])


def turns(seats):
    """By hand how many groups without it win with it, and not without."""
    return [len(_turned_by(seats, hand)) for hand in range(len(seats))]


def shares(seats):
    """By hand the fraction of all orders of the hands in which it is the first with which those up to it win."""
    orders = factorial(len(seats))
    return [fraction(sum(_orders_by(seats, hand)), orders) for hand in range(len(seats))]


def alike_seats(one, other):
    """Whether just the same groups win by two lists of seats."""
    return all([wins(one, group) == wins(other, group) for group in _groups(one)])


def _groups(seats):
    return list(range(all_of(len(seats)) + 1))


def _turned_by(seats, hand):
    """The groups without a hand that win with it, and not without."""
    without_it = [group for group in _groups(seats) if not holds(group, hand)]
    return [group for group in without_it if wins(seats, with_one(group, hand)) and not wins(seats, group)]


def _orders_by(seats, hand):
    """For each group that a hand turns, in how many orders just its hands are ahead of it."""
    sizes = [size(group) for group in _turned_by(seats, hand)]
    return [factorial(ahead) * factorial(len(seats) - 1 - ahead) for ahead in sizes]
