"""Words, counts and orders: what anything is asked to be."""

from wholepoll.wholes import is_whole

# The greatest day, and the greatest number of a telling, an envelope, a deed or a line's ballots.
MOST = 1000000000


def is_word(thing):
    """Whether anything is a text of one to eight letters a to z."""
    if not isinstance(thing, str) or not 1 <= len(thing) <= 8:
        return False
    return all(["a" <= sign <= "z" for sign in thing])


def is_count(thing, most):
    """Whether anything is a whole number from 0 to most."""
    return is_whole(thing) and 0 <= thing <= most


def is_order(thing, many):
    """Whether anything is a list or a tuple of the numbers 0 to many - 1, each just once."""
    if not isinstance(thing, (list, tuple)) or len(thing) != many:
        return False
    if not all([is_whole(number) for number in thing]):
        return False
    return sorted(thing) == list(range(many))
