"""Landmargin: how many ballots of a land would have to be others for another outcome."""

from wholepoll.cases import can_turn, lines_for, slip_by
from wholepoll.evenmargin import even_cases, even_least
from wholepoll.house import House, added
from wholepoll.listmargin import ListsMargin
from wholepoll.lists import Lists
from wholepoll.pairmargin import PairsMargin
from wholepoll.pairs import Pairs
from wholepoll.shifts import taken


class LandMargin:
    """The margin of a land."""

    def __init__(self, land):
        self.land = land
        self._margins = [_margin_of(way) for way in land.areas]

    def is_exact(self):
        """Whether all areas count by lists."""
        return all([isinstance(way, Lists) for way in self.land.areas])

    def lows(self, sheets):
        """The low of each area, and behind them the least need of evening; None where there is none."""
        found = self._found(sheets)
        return [None if one is None else one[0] for one in found] + [even_least(self.land, sheets)]

    def least(self, sheets):
        """A tuple (low, paper): no change of fewer than low ballots makes another outcome."""
        found = self._found(sheets)
        cases = even_cases(self.land, sheets)
        lows = [one[0] for one in found if one is not None] + [case[3] for case in cases]
        return (min(lows, default=None), [None if one is None else one[1] for one in found] + [cases])

    def shows(self, sheets, low, paper):
        """Whether a paper shows that no change of fewer than low ballots makes another outcome."""
        if not isinstance(paper, list) or len(paper) != len(self._margins) + 1:
            return False
        cases = even_cases(self.land, sheets)
        if paper[-1] != cases or any([case[3] < low for case in cases]):
            return False
        return all([_shows(margin, sheet, low, one) for margin, sheet, one in zip(self._margins, sheets, paper)])

    def high(self, sheets):
        """A tuple (high, area, change) of a change that makes another outcome, or None."""
        best = None
        for area, margin in enumerate(self._margins):
            if margin.possible(sheets[area]):
                high, change, _ = margin.high(sheets[area])
                if best is None or high < best[0]:
                    best = (high, area, change)
        for case in even_cases(self.land, sheets):
            if best is None or case[3] < best[0]:
                best = (case[3], None, _even_change(sheets, case))
        return best

    def held(self, seen, unseen, known):
        """Whether it is sure that no other ballots unseen make another outcome than that of those known."""
        for area, margin in enumerate(self._margins):
            if not margin.held(seen[area], unseen[area], known[area]):
                return False
        return self._is_even_held(seen, sum(unseen), known)

    def _is_even_held(self, seen, unseen, known):
        if unseen == 0 or self.land.evened == 0:
            return True
        by_area, evened = House(self.land, known).outcome()
        had = added(by_area, self.land.hands)
        least = self.land.least_votes(sum(self.land.votes(known)))
        return not can_turn(self.land, self.land.votes(seen), unseen, least, had, evened)

    def _found(self, sheets):
        """By area what its margin tells as `least`, None where no other outcome is possible."""
        return [_least_of(margin, sheet) for margin, sheet in zip(self._margins, sheets)]


def _margin_of(way):
    return PairsMargin(way) if isinstance(way, Pairs) else ListsMargin(way)


def _least_of(margin, sheet):
    return margin.least(sheet) if margin.possible(sheet) else None


def _shows(margin, sheet, low, paper):
    if not margin.possible(sheet):
        return paper is None
    return paper is not None and margin.shows(sheet, low, paper)


def _even_change(sheets, case):
    """The rows (area, old, new, number) of the change that a case of evening tells of."""
    change = []
    wanted = case[3]
    for area, sheet in enumerate(sheets):
        for old, new, number in taken(lines_for(sheet, case), slip_by(case), wanted):
            change.append((area, old, new, number))
            wanted = wanted - number
    return change
