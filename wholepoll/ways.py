"""Ways of counting an area's ballots, and what checks their papers."""

from wholepoll.errors import NoWay
from wholepoll.words import is_count, is_order

MOST_HANDS = 12
MOST_SEATS = 60


def are_lots(thing, hands):
    """Whether anything may be handed in as lots: None, or a list with each hand just once."""
    return thing is None or (isinstance(thing, list) and is_order(thing, hands))


def drawn(lots, hands):
    """The lots themselves, as a new list; left out, they are the hands by number."""
    return list(range(hands)) if lots is None else list(lots)


def stands_ahead(lots, one, other):
    """Whether one hand stands before another one in the lots."""
    return lots.index(one) < lots.index(other)


class Way:
    """A way of counting that counts nobody; the ways beneath it count."""

    def __init__(self, hands, seats, lots=None):
        if not is_count(hands, MOST_HANDS) or hands == 0:
            raise NoWay("there are 1 to 12 hands")
        if not is_count(seats, MOST_SEATS) or seats == 0:
            raise NoWay("there are 1 to 60 seats")
        if not are_lots(lots, hands):
            raise NoWay("lots are a list with each hand just once")
        self.hands = hands
        self.seats = seats
        self.lots = drawn(lots, hands)

    def ahead(self, one, other):
        """Whether one hand is ahead of another one by lots."""
        return stands_ahead(self.lots, one, other)

    def counted(self, sheet):
        """The paper of a sheet."""
        return None

    def told_by(self, paper):
        """The outcome that a paper shows."""
        return [0] * self.hands

    def outcome(self, sheet):
        """The outcome of a sheet: that which its own paper shows."""
        return self.told_by(self.counted(sheet))


class Checker:
    """A checker that finds no paper right; the checkers beneath it do."""

    def __init__(self, way):
        self.way = way

    def right(self, sheet, paper):
        """Whether a paper is right for a sheet."""
        return False

    def passes(self, sheet, paper, outcome):
        """Whether a paper is right for a sheet, and shows that outcome."""
        return self.right(sheet, paper) and outcome == self.way.told_by(paper)
