"""Envelopes: tuples (number, voter, area, day, slip), and the rules they are taken by."""

from wholepoll.numbered import unclashed
from wholepoll.sheets import is_slip
from wholepoll.tellings import LAST_AREA
from wholepoll.words import MOST, is_count, is_word


def is_envelope(thing, hands):
    """Whether anything is an envelope with a slip of so many hands."""
    if not isinstance(thing, tuple) or len(thing) != 5:
        return False
    number, voter, area, day, slip = thing
    if not is_count(number, MOST) or not is_word(voter):
        return False
    return is_count(area, LAST_AREA) and is_count(day, MOST) and is_slip(slip, hands)


def are_rules(thing):
    """Whether anything is rules: a tuple (day, wait, first, last), first at most last."""
    if not isinstance(thing, tuple) or len(thing) != 4:
        return False
    return all([is_count(number, MOST) for number in thing]) and thing[2] <= thing[3]


def standing_envelopes(envelopes):
    """The envelopes that stand, each once, by (day, number)."""
    return sorted(unclashed(envelopes, 0), key=_envelope_key)


def _envelope_key(envelope):
    return (envelope[3], envelope[0])
