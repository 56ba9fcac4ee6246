"""Lots: which bundles settle a land's outcome, if they are found as they are told."""

from wholepoll.landmargin import LandMargin
from wholepoll.sets import all_of, holds, is_within, outermost, size
from wholepoll.sheets import ballots_in, joined


def settles(land, bundles, lot):
    """Whether no ballots in the bundles that are not in a lot make another outcome."""
    looked = [holds(lot, place) for place in range(len(bundles))]
    seen = sheets_where(land, bundles, looked, True)
    known = sheets_where(land, bundles, [True] * len(bundles), True)
    return LandMargin(land).held(seen, ballots_unlooked(land, bundles, looked), known)


def least_lots(land, bundles):
    """The lots, rising, that settle, without one that has another one in it."""
    least = []
    # Those in a lot have smaller numbers; and a lot with one that settles in it settles, too.
    for lot in range(all_of(len(bundles)) + 1):
        if not _has_one(lot, least) and settles(land, bundles, lot):
            least.append(lot)
    return least


def greatest_open(land, bundles):
    """The lots, rising, that do not settle, without one that lies in another one."""
    least = least_lots(land, bundles)
    return outermost([lot for lot in range(all_of(len(bundles)) + 1) if not _has_one(lot, least)])


def must_look(land, bundles):
    """The mask of the bundles that are in all least lots."""
    common = all_of(len(bundles))
    for lot in least_lots(land, bundles):
        common = common & lot
    return common


def fewest(land, bundles):
    """The first least lot with the fewest bundles."""
    return min(least_lots(land, bundles), key=size)


def sheets_where(land, bundles, looked, wanted):
    """By area the sheet of the bundles that were looked at, or not, as wanted."""
    by_area = [[] for _ in land.areas]
    for (area, sheet), is_looked in zip(bundles, looked):
        if is_looked == wanted:
            by_area[area].append(sheet)
    return [joined(sheets) for sheets in by_area]


def ballots_unlooked(land, bundles, looked):
    """By area how many ballots lie in bundles that were not looked at."""
    return [ballots_in(sheet) for sheet in sheets_where(land, bundles, looked, False)]


def _has_one(lot, least):
    return any([is_within(one, lot) for one in least])
