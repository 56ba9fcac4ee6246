"""Pairs: hands picked one by one by the strongest ways between them."""

from wholepoll.sets import with_one
from wholepoll.strong import cut_by, leads_of, overs, strength, strongest_from, way_back
from wholepoll.ways import Way


class Pairs(Way):
    """The way of counting by pairs."""

    def beats(self, sheet, x, y):
        """Whether x beats y."""
        return _beats(self._strengths(sheet), x, y)

    def unbeaten(self, sheet):
        """The mask of all hands that no hand beats."""
        strengths = self._strengths(sheet)
        free = 0
        for hand in _unbeaten(strengths, self.lots):
            free = with_one(free, hand)
        return free

    def counted(self, sheet):
        """The paper of a sheet: its overs, what shows the strengths, and the hands picked."""
        many = overs(sheet, self.hands)
        shown = _shown(leads_of(many))
        return (many, shown, self.picked_by(strengths_told(shown, self.hands)))

    def told_by(self, paper):
        """The outcome that a paper shows: 1 for each hand picked, else 0."""
        picks = paper[2]
        return [1 if hand in picks else 0 for hand in range(self.hands)]

    def picked_by(self, strengths):
        """The hands picked by strengths, in the order of picking."""
        left = list(self.lots)
        picks = []
        while left and len(picks) < self.seats:
            # Those left are in the order of the lots, and so are the unbeaten of them.
            hand = _unbeaten(strengths, left)[0]
            picks.append(hand)
            left.remove(hand)
        return picks

    def _strengths(self, sheet):
        return strength(leads_of(overs(sheet, self.hands)))


def unlike_pairs(hands):
    """Each two unlike hands as a tuple, by the first one, then by the second one."""
    return [(x, y) for x in range(hands) for y in range(hands) if x != y]


def strengths_told(shown, hands):
    """By x, then by y, the strengths that a paper's tuples (x, y, strength, way, cut) tell."""
    strengths = [[0] * hands for _ in range(hands)]
    for row in shown:
        strengths[row[0]][row[1]] = row[2]
    return strengths


def _shown(leads):
    found = [strongest_from(leads, x) for x in range(len(leads))]
    shown = []
    for x, y in unlike_pairs(len(leads)):
        best, before = found[x]
        shown.append((x, y, best[y], way_back(before, x, y), cut_by(best, x, y)))
    return shown


def _beats(strengths, x, y):
    return strengths[x][y] > strengths[y][x]


def _unbeaten(strengths, among):
    return [hand for hand in among if not any([_beats(strengths, other, hand) for other in among])]
