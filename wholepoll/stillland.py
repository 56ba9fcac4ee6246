"""Stillland: what a land can still come to while some ballots are to come."""

from wholepoll.chances import Chances
from wholepoll.house import added
from wholepoll.lists import sheet_by


def outcomes(land, seen, unseen):
    """The outcomes, sorted, that can still be, whatever the unseen ballots are."""
    return sorted(_votes_by_outcome(land, seen, unseen))


def sheets_for(land, seen, unseen, outcome):
    """By area a sheet of the unseen ballots with which an outcome comes, or None."""
    votes = _votes_by_outcome(land, seen, unseen).get(outcome)
    return None if votes is None else [sheet_by(one) for one in votes]


def houses(land, seen, unseen):
    """The houses, sorted, that can still be."""
    return sorted({_house_of(outcome, land.hands) for outcome in _votes_by_outcome(land, seen, unseen)})


def between(land, seen, unseen):
    """By hand the least and the greatest number of its seats in the houses that can still be."""
    some = houses(land, seen, unseen)
    return [(min([one[hand] for one in some]), max([one[hand] for one in some])) for hand in range(land.hands)]


def is_settled(land, seen, unseen):
    """Whether one outcome alone can still be."""
    return len(_votes_by_outcome(land, seen, unseen)) == 1


def _votes_by_outcome(land, seen, unseen):
    """The dict from the outcomes that can still be to votes by area that bring them."""
    chances = Chances(land, seen, unseen)
    found = {}
    for (by_area, votes), each in chances.together(list(range(len(land.areas)))).items():
        found[(by_area, chances.evened_for(by_area, votes))] = each
    return found


def _house_of(outcome, hands):
    by_area, evened = outcome
    return tuple(added(list(by_area) + [evened], hands))
