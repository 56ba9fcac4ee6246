"""Paircheck: whether a paper of Pairs is right."""

from wholepoll.links import greatest_link, is_cut, is_way, least_link
from wholepoll.pairs import strengths_told, unlike_pairs
from wholepoll.strong import leads_of, overs
from wholepoll.ways import Checker


class PairsChecker(Checker):
    """A checker of the papers of a Pairs."""

    def right(self, sheet, paper):
        """Whether a paper is right for a sheet."""
        many, shown, picks = paper
        hands = self.way.hands
        if many != overs(sheet, hands) or [(row[0], row[1]) for row in shown] != unlike_pairs(hands):
            return False
        leads = leads_of(many)
        if not all([_shows_strength(leads, row) for row in shown]):
            return False
        return picks == self.way.picked_by(strengths_told(shown, hands))


def _shows_strength(leads, row):
    """Whether a way shows that the strength is no less than told, and a cut that it is no greater."""
    x, y, told, way, cut = row
    if not is_way(way, x, y, len(leads)) or not is_cut(cut, x, y, len(leads)):
        return False
    return least_link(leads, way) == told and greatest_link(leads, cut) <= told
