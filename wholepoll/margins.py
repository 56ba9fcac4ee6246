"""Margins: how many ballots of an area would have to be others for another outcome."""

from wholepoll.sets import with_one
from wholepoll.sheets import ballots_in, changed
from wholepoll.shifts import free_for, shift


class Margin:
    """What is known of the margin of any way; the margins beneath it know more."""

    def __init__(self, way):
        self.way = way

    def possible(self, sheet):
        """Whether the sheet has a ballot and the way more hands than seats."""
        return ballots_in(sheet) > 0 and self.way.hands > self.way.seats

    def slip_for(self, x, y):
        """The slip that is put to lift y over x."""
        return (with_one(0, y),)

    def least(self, sheet):
        """A tuple (low, paper): no change of fewer than low ballots makes another outcome."""
        return (1, [])

    def shows(self, sheet, low, paper):
        """Whether a paper shows that no change of fewer than low ballots makes another outcome."""
        return low <= 1

    def high(self, sheet):
        """A tuple (high, change, pair): the fewest ballots found whose shift makes another outcome."""
        outcome = self.way.outcome(sheet)
        best = ballots_in(sheet) + 1
        pair = None
        for x, y in parted_pairs(outcome):
            enough = self._enough(sheet, outcome, x, y, best)
            if enough < best:
                best = enough
                pair = (x, y)
        if pair is None:
            return (best, [], None)
        x, y = pair
        return (best, shift(sheet, x, y, self.slip_for(x, y), best), pair)

    def told(self, sheet):
        """None where no other outcome is possible, else a tuple (low, high, paper, change)."""
        if not self.possible(sheet):
            return None
        low, paper = self.least(sheet)
        high, change, _ = self.high(sheet)
        return (low, high, paper, change)

    def held(self, seen, unseen, known):
        """Whether it is sure that no other ballots unseen make another outcome than that of those known."""
        if unseen == 0 or not self.possible(known):
            return True
        return self.least(known)[0] > unseen

    def _enough(self, sheet, outcome, x, y, best):
        """The ballots found by halving for one pair of hands, or best where they are no fewer."""
        slip = self.slip_for(x, y)
        low = 0
        high = free_for(sheet, slip)
        # What is found is above `low`, so from there on the pair can't be the first with the least.
        while high - low > 1 and low + 1 < best:
            middle = (low + high) // 2
            if self.way.outcome(changed(sheet, shift(sheet, x, y, slip, middle))) != outcome:
                high = middle
            else:
                low = middle
        return min(high, best)


def parted_pairs(outcome):
    """The tuples (x, y) of a hand with a seat and one with none, by x, then by y."""
    hands = range(len(outcome))
    return [(x, y) for x in hands if outcome[x] > 0 for y in hands if outcome[y] == 0]
