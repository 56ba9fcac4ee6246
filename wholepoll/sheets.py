"""Sheets: lists of lines (slip, number) with unlike slips, sorted."""

from wholepoll.errors import NoChange, NoSheet
from wholepoll.sets import all_of
from wholepoll.wholes import is_whole
from wholepoll.words import MOST, is_count


def sheet_of(lines):
    """The sheet of a list of lines, in whatever order they come."""
    for slip, number in lines:
        if not is_count(number, MOST) or number == 0:
            raise NoSheet("a line has a whole number of ballots from 1 to 10 ** 9")
    return joined([lines])


def joined(sheets):
    """One sheet of all ballots of a list of sheets."""
    many = {}
    for sheet in sheets:
        for slip, number in sheet:
            many[slip] = many.get(slip, 0) + number
    return _sheet_by(many)


def ballots_in(sheet):
    """How many ballots a sheet has."""
    return sum([number for slip, number in sheet])


def number_of(sheet, slip):
    """How many ballots of a sheet have that slip."""
    return _by_slip(sheet).get(slip, 0)


def changed(sheet, change):
    """The sheet behind a change, a list of rows (old, new, number)."""
    for old, new, number in change:
        if not is_whole(number) or number < 1:
            raise NoChange("a row has a whole number of ballots from 1 on")
        if old == new:
            raise NoChange("a row puts another slip in the place of one")
    many = _by_slip(sheet)
    for old, new, number in change:
        many[old] = many.get(old, 0) - number
    # All are taken before any is put: what a row puts, no other row can take.
    if any([number < 0 for number in many.values()]):
        raise NoChange("more ballots are taken of a slip than there are")
    for old, new, number in change:
        many[new] = many.get(new, 0) + number
    return _sheet_by(many)


def apart(one, other):
    """How many ballots of the one sheet the other one lacks."""
    there = _by_slip(other)
    return sum([max(0, number - there.get(slip, 0)) for slip, number in one])


def is_slip(thing, hands):
    """Whether anything is a slip of so many hands."""
    if not isinstance(thing, tuple):
        return False
    ranked = 0
    for tier in thing:
        if not is_count(tier, all_of(hands)) or tier == 0 or tier & ranked != 0:
            return False
        ranked = ranked | tier
    return True


def is_sheet(thing, hands):
    """Whether anything is a sheet of slips of so many hands."""
    if not isinstance(thing, list):
        return False
    if not all([_is_line(line, hands) for line in thing]):
        return False
    slips = [slip for slip, number in thing]
    return all([slips[k] < slips[k + 1] for k in range(len(slips) - 1)])


def _is_line(thing, hands):
    if not isinstance(thing, tuple) or len(thing) != 2:
        return False
    return is_slip(thing[0], hands) and is_whole(thing[1]) and thing[1] >= 1


def _by_slip(sheet):
    return {slip: number for slip, number in sheet}


def _sheet_by(many):
    return [(slip, many[slip]) for slip in sorted(many) if many[slip] > 0]
