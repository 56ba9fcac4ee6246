"""Lands: areas, each with its way of counting, and what the land goes by when further seats are evened."""

from wholepoll.divisors import hurdle_of, is_hurdle, is_step, mark_by, votes_needed
from wholepoll.errors import NoLand
from wholepoll.lists import Lists, votes_of
from wholepoll.pairs import Pairs
from wholepoll.ways import are_lots, drawn, stands_ahead
from wholepoll.words import is_count

MOST_AREAS = 6
MOST_EVENED = 60


class Land:
    """A land of some areas, and with so many evened seats."""

    def __init__(self, areas, evened=0, lots=None, hurdle=None, step=1):
        if not _are_areas(areas):
            raise NoLand("areas are one to six Pairs or Lists with as many hands")
        if not is_count(evened, MOST_EVENED):
            raise NoLand("there are 0 to 60 evened seats")
        if not are_lots(lots, areas[0].hands):
            raise NoLand("lots are a list with each hand just once")
        if not is_hurdle(hurdle):
            raise NoLand("a hurdle is a fraction from nought to one")
        if not is_step(step):
            raise NoLand("a step is a whole number from 1 to 9")
        self.areas = list(areas)
        self.hands = areas[0].hands
        self.evened = evened
        self.lots = drawn(lots, self.hands)
        self.hurdle = hurdle_of(hurdle)
        self.step = step

    def ahead(self, one, other):
        """Whether one hand is ahead of another one by the land's lots."""
        return stands_ahead(self.lots, one, other)

    def votes(self, sheets):
        """By hand how many ballots of all areas are votes for it, and last how many are idle."""
        by_area = [votes_of(sheet, self.hands) for sheet in sheets]
        return [sum([votes[place] for votes in by_area]) for place in range(self.hands + 1)]

    def least_votes(self, ballots):
        """How many votes a hand needs to take part in evening, of so many ballots of all areas."""
        return votes_needed(self.hurdle, ballots)

    def mark(self, many, had):
        """The mark of a hand with so many votes that has so many seats already."""
        return mark_by(self.step, many, had)


def _are_areas(thing):
    if not isinstance(thing, (list, tuple)) or not 1 <= len(thing) <= MOST_AREAS:
        return False
    if not all([isinstance(way, Pairs) or isinstance(way, Lists) for way in thing]):
        return False
    return all([way.hands == thing[0].hands for way in thing])
