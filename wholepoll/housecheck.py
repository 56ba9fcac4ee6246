"""Housecheck: whether the paper of a house is right."""

from wholepoll.evening import evened_by, evening
from wholepoll.house import added
from wholepoll.listcheck import ListsChecker
from wholepoll.paircheck import PairsChecker
from wholepoll.pairs import Pairs


class HouseChecker:
    """A checker of the papers of a land's houses."""

    def __init__(self, land):
        self.land = land

    def right(self, sheets, paper):
        """Whether each area's paper is right, and the paper of evening is that of the seats they show."""
        papers, of_evening = paper
        if len(papers) != len(self.land.areas):
            return False
        for way, sheet, one in zip(self.land.areas, sheets, papers):
            if not _checker_of(way).right(sheet, one):
                return False
        had = added(self._shown(papers), self.land.hands)
        return of_evening == evening(self.land, self.land.votes(sheets), had)

    def passes(self, sheets, paper, outcome):
        """Whether a paper is right, and shows that outcome."""
        if not self.right(sheets, paper):
            return False
        return outcome == (self._shown(paper[0]), evened_by(self.land, paper[1]))

    def _shown(self, papers):
        return [way.told_by(one) for way, one in zip(self.land.areas, papers)]


def _checker_of(way):
    return PairsChecker(way) if isinstance(way, Pairs) else ListsChecker(way)
