"""Tellings: tuples (number, day, voter, word, area) of what a roll goes by."""

from wholepoll.numbered import clashing_numbers, unclashed
from wholepoll.words import MOST, is_count, is_word

WORDS = ("comes", "goes", "barred", "cleared")
LAST_AREA = 5


def is_telling(thing):
    """Whether anything is a telling."""
    if not isinstance(thing, tuple) or len(thing) != 5:
        return False
    number, day, voter, word, area = thing
    if not is_count(number, MOST) or not is_count(day, MOST) or not is_word(voter):
        return False
    if not isinstance(word, str) or word not in WORDS:
        return False
    if word == "comes":
        return is_count(area, LAST_AREA)
    return area is None


def is_telling_in(thing, areas):
    """Whether anything is a telling of a land with so many areas."""
    return is_telling(thing) and (thing[4] is None or thing[4] < areas)


def telling_key(telling):
    """What tellings stand in order by: (day, number)."""
    return (telling[1], telling[0])


def lives_by(telling):
    """Whether a telling is one of where its voter lives."""
    return telling[3] in ("comes", "goes")


def standing(tellings):
    """The tellings that stand, each once, by (day, number)."""
    return sorted(unclashed(tellings, 0), key=telling_key)


def clashing(tellings):
    """The numbers, rising, of which unlike tellings have come."""
    return clashing_numbers(tellings, 0)
