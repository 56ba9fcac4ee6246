"""Chances: what the areas of a land can still come to by their ballots to come, each alone and together.

Votes are told here as tuples: by hand, and last the idle ones.
"""

from wholepoll.evening import evened_by, evening
from wholepoll.house import added
from wholepoll.lists import sheet_by
from wholepoll.sheets import joined


class Chances:
    """What can still come to the areas of a land, all of which count by lists."""

    def __init__(self, land, seen, unseen):
        self._land = land
        self._votes = tuple(land.votes(seen))
        self._by_area = [_chances_of(way, sheet, many) for way, sheet, many in zip(land.areas, seen, unseen)]
        # By the seats of the areas and the votes to come; many chances share these.
        self._evened = {}

    def areas_but(self, area):
        """The areas of the land without one."""
        return [one for one in range(len(self._by_area)) if one != area]

    def of_area(self, area):
        """What can come to an area: a list of tuples (outcome, votes)."""
        return list(self._by_area[area])

    def together(self, areas):
        """The dict from tuples (outcomes, votes of all together) of some areas to votes by area that bring it."""
        found = {((), (0,) * len(self._votes)): ()}
        for area in areas:
            found = {
                (outcomes + (outcome,), summed(votes, more)): by_area + (more,)
                for (outcomes, votes), by_area in found.items()
                for outcome, more in self._by_area[area]
            }
        return found

    def evened_for(self, outcomes, votes):
        """By hand the evened seats, by the outcomes of all areas and all votes to come."""
        had = tuple(added(outcomes, self._land.hands))
        if (had, votes) not in self._evened:
            paper = evening(self._land, list(summed(self._votes, votes)), list(had))
            self._evened[(had, votes)] = tuple(evened_by(self._land, paper))
        return self._evened[(had, votes)]


def summed(one, other):
    """The votes of both together."""
    return tuple([many + more for many, more in zip(one, other)])


def _chances_of(way, sheet, unseen):
    rows = []
    for votes in _all_votes(way.hands, unseen):
        rows.append((tuple(way.outcome(joined([sheet, sheet_by(votes)]))), votes))
    return rows


def _all_votes(hands, ballots):
    """All votes that so many ballots can be."""
    rows = [((), ballots)]
    for _ in range(hands):
        rows = [(votes + (many,), left - many) for votes, left in rows for many in range(left + 1)]
    return [votes + (left,) for votes, left in rows]
