"""Polls: the deeds that came, and what they come to."""

from wholepoll.admitted import mailed, verdicts
from wholepoll.deeds import bundles_by, is_deed, number_of, standing_deeds
from wholepoll.envelopes import are_rules
from wholepoll.errors import NoDeed, NoPoll
from wholepoll.house import House
from wholepoll.lands import Land
from wholepoll.lists import Lists
from wholepoll.rolls import Roll
from wholepoll.sheets import joined
from wholepoll.unlike import unlike_keys, unlike_places


class Poll:
    """A poll of a land by rules; it hangs on the set of its deeds alone."""

    def __init__(self, land, rules):
        if not isinstance(land, Land):
            raise NoPoll("a poll is one of a Land")
        if not are_rules(rules):
            raise NoPoll("rules are a tuple (day, wait, first, last)")
        self.land = land
        self.rules = rules
        self._came = {}

    def __eq__(self, other):
        if not isinstance(other, Poll):
            return NotImplemented
        if not _are_same_lands(self.land, other.land):
            return False
        return self.rules == other.rules and self._came == other._came

    def put(self, deed):
        """Puts a deed in; answers whether it is a new one."""
        if not self._can_have(deed):
            raise NoDeed("that is no deed for this land")
        if deed in self._came:
            return False
        self._came[deed] = True
        return True

    def out(self, deed):
        """Takes a deed out, as if it had never come."""
        # Asked first: 1 and True are alike as keys, and a list can't be one.
        if not self._can_have(deed) or deed not in self._came:
            raise NoDeed("that deed is not there")
        del self._came[deed]

    def deeds(self):
        """The deeds that came, each once, by their numbers, of one number by their `repr`."""
        return sorted(self._came, key=_deed_key)

    def standing(self):
        """The deeds that stand, by their numbers."""
        return standing_deeds(list(self._came))

    def roll(self):
        """The Roll of the tellings of standing deeds."""
        return Roll(len(self.land.areas), self._told_by("roll"))

    def envelopes(self):
        """The envelopes, rising, of standing deeds."""
        return sorted(set(self._told_by("mail")))

    def struck(self):
        """The numbers, rising, that standing deeds strike."""
        return sorted(set(self._told_by("strike")))

    def verdicts(self):
        """The dict from the numbers of the standing envelopes, rising, to their words."""
        return verdicts(self.roll(), self.rules, self.envelopes(), self.struck())

    def mail(self):
        """By area the sheet of the envelopes that count."""
        return mailed(self.roll(), self.rules, self.envelopes(), self.struck())

    def boxes(self):
        """By area the dict from the numbers of its bundles, rising, to their lists of lines."""
        return bundles_by(list(self._came), len(self.land.areas))

    def sheets(self):
        """By area the sheet of all its ballots."""
        return [joined([sheet] + list(box.values())) for sheet, box in zip(self.mail(), self.boxes())]

    def house(self):
        """The House of all ballots."""
        return House(self.land, self.sheets())

    def unlike(self, other):
        """The numbers of envelopes whose words, and the areas whose sheets, are others in another poll of the land."""
        numbers = unlike_keys(self.verdicts(), other.verdicts())
        return (numbers, unlike_places(self.sheets(), other.sheets()))

    def copied(self):
        """A poll with the same deeds that goes on by itself."""
        other = Poll(self.land, self.rules)
        other._came = {deed: True for deed in self._came}
        return other

    def _can_have(self, thing):
        """Whether anything is a deed for this land."""
        return is_deed(thing, len(self.land.areas), self.land.hands)

    def _told_by(self, word):
        """What the standing deeds of a word tell, behind their numbers."""
        return [deed[2] for deed in self.standing() if deed[0] == word]


def _deed_key(deed):
    return (number_of(deed), repr(deed))


def _are_same_lands(one, other):
    if [one.evened, one.lots, one.hurdle, one.step] != [other.evened, other.lots, other.hurdle, other.step]:
        return False
    if len(one.areas) != len(other.areas):
        return False
    return all([_are_same_ways(way, beside) for way, beside in zip(one.areas, other.areas)])


def _are_same_ways(one, other):
    return one.__class__.__name__ == other.__class__.__name__ and _values_of(one) == _values_of(other)


def _values_of(way):
    values = [way.hands, way.seats, way.lots]
    return values + [way.hurdle, way.step] if isinstance(way, Lists) else values
