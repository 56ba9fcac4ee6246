"""Listmargin: margins of an area that counts by lists."""

from wholepoll.cases import can_turn, cases_of, least_need, lines_for, slip_by
from wholepoll.lists import votes_of
from wholepoll.margins import Margin
from wholepoll.sheets import ballots_in
from wholepoll.shifts import taken


class ListsMargin(Margin):
    """The margin of a Lists."""

    def possible(self, sheet):
        """Whether the sheet has a ballot; then another outcome is always possible."""
        return ballots_in(sheet) > 0

    def least(self, sheet):
        """A tuple (low, cases): just so many ballots must be changed for another outcome."""
        cases = self._cases(sheet)
        return (least_need(cases), cases)

    def shows(self, sheet, low, paper):
        """Whether a paper is the list of the sheet's cases, none of which needs less than low."""
        return paper == self._cases(sheet) and all([case[3] >= low for case in paper])

    def high(self, sheet):
        """A tuple (low, change, None), with a change of just low ballots that makes another outcome."""
        cases = self._cases(sheet)
        low = least_need(cases)
        case = [one for one in cases if one[3] == low][0]
        return (low, taken(lines_for(sheet, case), slip_by(case), low), None)

    def told(self, sheet):
        """None where no other outcome is possible, else a tuple (low, low, cases, change)."""
        return super().told(sheet)

    def held(self, seen, unseen, known):
        """Whether no other ballots unseen make another outcome than that of those known."""
        votes = votes_of(seen, self.way.hands)
        least = self.way.least_votes(ballots_in(known))
        return not can_turn(self.way, votes, unseen, least, [0] * self.way.hands, self.way.outcome(known))

    def _cases(self, sheet):
        votes = votes_of(sheet, self.way.hands)
        return cases_of(self.way, votes, [0] * self.way.hands, self.way.outcome(sheet))
