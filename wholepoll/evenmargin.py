"""Evenmargin: how many ballots would have to be others for other evened seats."""

from wholepoll.cases import cases_of
from wholepoll.house import House, added


def even_cases(land, sheets):
    """The cases of evening, tuples (word, b, a, need); none without evened seats or ballots."""
    votes = land.votes(sheets)
    if land.evened == 0 or sum(votes) == 0:
        return []
    by_area, evened = House(land, sheets).outcome()
    return cases_of(land, votes, added(by_area, land.hands), evened)


def even_least(land, sheets):
    """The least need of the cases of evening, None where there are none."""
    return min([case[3] for case in even_cases(land, sheets)], default=None)
