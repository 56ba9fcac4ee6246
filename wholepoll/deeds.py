"""Deeds: tuples (word, number, ..) of what comes to a poll, in any order."""

from wholepoll.envelopes import is_envelope
from wholepoll.numbered import clashing_numbers, unclashed
from wholepoll.sheets import ballots_in, is_slip
from wholepoll.tellings import is_telling_in
from wholepoll.words import MOST, is_count


def is_deed(thing, areas, hands):
    """Whether anything is a deed of a land with so many areas and hands."""
    if not isinstance(thing, tuple) or len(thing) not in (3, 4):
        return False
    word = thing[0]
    if not isinstance(word, str) or not is_count(thing[1], MOST):
        return False
    if len(thing) == 4:
        last = areas - 1 if word == "bundle" else MOST
        return word in ("bundle", "recount") and is_count(thing[2], last) and _are_lines(thing[3], hands)
    if word == "roll":
        return is_telling_in(thing[2], areas)
    if word == "mail":
        return is_envelope(thing[2], hands)
    return word in ("strike", "void") and is_count(thing[2], MOST)


def number_of(deed):
    """The number of a deed."""
    return deed[1]


def standing_deeds(deeds):
    """The deeds that stand, each once, by their numbers."""
    alone = unclashed(deeds, 1)
    # No void is void; so each that stands by its number is.
    void = [deed[2] for deed in alone if deed[0] == "void"]
    left = [deed for deed in alone if deed[0] == "void" or deed[1] not in void]
    return sorted(left, key=number_of)


def clashing_deeds(deeds):
    """The numbers, rising, of which unlike deeds came."""
    return clashing_numbers(deeds, 1)


def bundles_by(deeds, areas):
    """By area the dict from the numbers of the bundles that stand, rising, to their lists of lines."""
    left = standing_deeds(deeds)
    by_area = [{} for _ in range(areas)]
    for deed in left:
        if deed[0] == "bundle":
            by_area[deed[2]][deed[1]] = list(_lines_now(deed, left))
    return by_area


def _lines_now(bundle, deeds):
    """The lines of a bundle by the last recount of as many ballots, of deeds by their numbers."""
    lines = bundle[3]
    for deed in deeds:
        if deed[0] == "recount" and deed[2] == bundle[1] and ballots_in(deed[3]) == ballots_in(bundle[3]):
            lines = deed[3]
    return lines


def _are_lines(thing, hands):
    return isinstance(thing, tuple) and all([_is_line(line, hands) for line in thing])


def _is_line(thing, hands):
    if not isinstance(thing, tuple) or len(thing) != 2:
        return False
    return is_slip(thing[0], hands) and is_count(thing[1], MOST) and thing[1] > 0
