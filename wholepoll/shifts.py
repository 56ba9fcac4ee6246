"""Shifts: changes by which ballots get one slip."""

from wholepoll.sets import holds, with_one
from wholepoll.sheets import ballots_in, number_of


def free_for(sheet, slip):
    """How many ballots of a sheet have another slip than that."""
    return ballots_in(sheet) - number_of(sheet, slip)


def shift(sheet, x, y, slip, many):
    """The change by which so many ballots get a slip that lifts y, first of all those that lie with x alone."""
    ranked = [(_place(line[0], x, y), line) for line in sheet if line[0] != slip]
    in_order = [line for place in range(3) for found, line in ranked if found == place]
    return taken(in_order, slip, many)


def taken(lines, slip, many):
    """The change by which so many ballots of some lines get a slip, line by line."""
    change = []
    wanted = many
    for old, number in lines:
        if wanted > 0:
            change.append((old, slip, min(number, wanted)))
            wanted = wanted - min(number, wanted)
    return change


def _place(slip, x, y):
    """In which of three turns ballots with a slip are taken."""
    if len(slip) > 0 and slip[0] == with_one(0, x):
        return 0
    if len(slip) == 0 or not holds(slip[0], y):
        return 1
    return 2
