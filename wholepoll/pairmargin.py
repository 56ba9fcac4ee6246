"""Pairmargin: margins of an area that counts by pairs."""

from wholepoll.links import greatest_link, is_cut, is_way, least_link
from wholepoll.margins import Margin, parted_pairs
from wholepoll.sets import all_of, with_one, without
from wholepoll.strong import cut_between, leads_of, overs, strength, way_between
from wholepoll.wholes import down, up


class PairsMargin(Margin):
    """The margin of a Pairs."""

    def slip_for(self, x, y):
        """The slip that is put to lift y over x: y ahead, x behind all others."""
        others = without(without(all_of(self.way.hands), x), y)
        if others == 0:
            return (with_one(0, y),)
        return (with_one(0, y), others)

    def least(self, sheet):
        """A tuple (low, paper): no change of fewer than low ballots makes another outcome."""
        leads = self._leads(sheet)
        paper = [self._row(leads, x, y) for x, y in parted_pairs(self.way.outcome(sheet))]
        return (min([row[4] for row in paper], default=1), paper)

    def shows(self, sheet, low, paper):
        """Whether a paper shows that no change of fewer than low ballots makes another outcome."""
        if [(row[0], row[1]) for row in paper] != parted_pairs(self.way.outcome(sheet)):
            return False
        leads = self._leads(sheet)
        return all([self._is_need(leads, row) and row[4] >= low for row in paper])

    def held(self, seen, unseen, known):
        """Whether the leads of what is seen make it sure that the outcome is that of those known."""
        if unseen == 0 or not self.possible(known):
            return True
        strengths = strength(self._leads(seen))
        for x, y in parted_pairs(self.way.outcome(known)):
            gap = strengths[x][y] - strengths[y][x] - 2 * unseen
            if gap < 0 or (gap == 0 and not self.way.ahead(x, y)):
                return False
        return True

    def _leads(self, sheet):
        return leads_of(overs(sheet, self.way.hands))

    def _row(self, leads, x, y):
        way = way_between(leads, x, y)
        cut = cut_between(leads, y, x)
        return (x, y, way, cut, self._need(x, y, least_link(leads, way), greatest_link(leads, cut)))

    def _is_need(self, leads, row):
        x, y, way, cut, need = row
        if not is_way(way, x, y, len(leads)) or not is_cut(cut, y, x, len(leads)):
            return False
        return need == self._need(x, y, least_link(leads, way), greatest_link(leads, cut))

    def _need(self, x, y, first, second):
        """The fewest ballots by which y may come to stand over x, each turning both strengths by 2 at most."""
        gap = first - second
        if self.way.ahead(y, x):
            return max(1, up(gap, 4))
        return max(1, down(gap, 4) + 1)
