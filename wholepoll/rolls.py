"""Rolls: who may vote where, by the tellings that have come."""

from wholepoll.errors import NoRoll, NoTelling
from wholepoll.lives import area_to_vote, life_of, lives_of, state_on
from wholepoll.tellings import LAST_AREA, clashing, is_telling, is_telling_in, standing
from wholepoll.words import is_count


class Roll:
    """A roll of a land with so many areas."""

    def __init__(self, areas, tellings=()):
        if not is_count(areas, LAST_AREA + 1) or areas == 0:
            raise NoRoll("a land has 1 to 6 areas")
        if not isinstance(tellings, (list, tuple)):
            raise NoRoll("tellings come in a list or a tuple")
        if not all([is_telling_in(telling, areas) for telling in tellings]):
            raise NoRoll("that is no telling for so many areas")
        self.areas = areas
        self._came = {telling: True for telling in tellings}

    def __eq__(self, other):
        if not isinstance(other, Roll):
            return NotImplemented
        return self.areas == other.areas and self._came == other._came

    def __or__(self, other):
        if not isinstance(other, Roll):
            return NotImplemented
        if self.areas != other.areas:
            raise NoRoll("the rolls are of lands with unlike areas")
        return Roll(self.areas, list(self._came) + list(other._came))

    def tell(self, telling):
        """Tells one more telling; answers whether it is a new one."""
        if not is_telling_in(telling, self.areas):
            raise NoRoll("that is no telling for so many areas")
        if telling in self._came:
            return False
        self._came[telling] = True
        return True

    def untell(self, telling):
        """Takes a telling back, as if it had never come."""
        # Asked first: 1 and True are alike as keys, and a list can't be one.
        if not is_telling(telling) or telling not in self._came:
            raise NoTelling("that telling has not come")
        del self._came[telling]

    def told(self):
        """The tellings that have come, each once, sorted."""
        # Tellings of one word have areas of one kind, so None is never compared with a number.
        return sorted(self._came)

    def clashes(self):
        """The numbers, rising, of which unlike tellings have come."""
        return clashing(list(self._came))

    def place(self, voter, day):
        """The area in which a voter lives on a day, or None."""
        area, _ = state_on(self.life(voter), day)
        return area

    def is_barred(self, voter, day):
        """Whether a voter is barred on a day."""
        _, barred = state_on(self.life(voter), day)
        return barred

    def votes_in(self, voter, day, wait):
        """The area in which a voter may vote on a day, or None."""
        return area_to_vote(self.life(voter), day, wait)

    def voters(self, area, day, wait):
        """Those, rising, who may vote in an area on a day."""
        homes = self.homes(day, wait)
        return [voter for voter in homes if homes[voter] == area]

    def everybody(self):
        """The voters, rising, of whom a standing telling tells."""
        return list(lives_of(list(self._came)))

    def copied(self):
        """A roll with the same tellings that goes on by itself."""
        return Roll(self.areas, list(self._came))

    def life(self, voter):
        """The life of a voter, stretch by stretch."""
        return life_of([telling for telling in standing(list(self._came)) if telling[2] == voter])

    def homes(self, day, wait):
        """By voter, rising, of all of `everybody`: the area to vote in on a day, or None."""
        lives = lives_of(list(self._came))
        return {voter: area_to_vote(lives[voter], day, wait) for voter in lives}
