"""Looks: going through told bundles one by one, until the outcome is held."""

from wholepoll.errors import Ended, WrongNumber
from wholepoll.house import House
from wholepoll.landmargin import LandMargin
from wholepoll.lots import ballots_unlooked, sheets_where
from wholepoll.sheets import ballots_in, sheet_of


def order_of(number, many):
    """An order of the numbers 0 to many - 1, told by a whole number."""
    left = list(range(many))
    order = []
    while left:
        number, place = divmod(number, len(left))
        order.append(left.pop(place))
    return order


class Look:
    """A going through told bundles in the order of a number."""

    def __init__(self, land, bundles, number):
        self._land = land
        # Of the bundles looked at what was found, of the others what was told.
        self._bundles = [(area, list(sheet)) for area, sheet in bundles]
        self._looked = [False] * len(bundles)
        self._left = order_of(number, len(bundles))
        self._told = House(land, self.known()).outcome()
        self._word = self._word_now()

    def unlooked(self):
        """By area how many ballots lie in bundles not looked at yet."""
        return ballots_unlooked(self._land, self._bundles, self._looked)

    def known(self):
        """By area the sheet of what is known."""
        return sheets_where(self._land, self._bundles, [True] * len(self._bundles), True)

    def word(self):
        """Whether the outcome is "open", or "sure" as told, or "otherwise"."""
        return self._word

    def due(self):
        """The number of the next bundle, None where none is due."""
        return self._left[0] if self._word == "open" else None

    def found(self, lines):
        """Says what was found in the bundle that is due; answers the word behind that."""
        if self._word != "open":
            raise Ended("no bundle is due")
        sheet = sheet_of(lines)
        place = self._left[0]
        area, told = self._bundles[place]
        if ballots_in(sheet) != ballots_in(told):
            raise WrongNumber(ballots_in(told), ballots_in(sheet))
        self._bundles[place] = (area, sheet)
        self._looked[place] = True
        self._left.pop(0)
        self._word = self._word_now()
        return self._word

    def _word_now(self):
        known = self.known()
        seen = sheets_where(self._land, self._bundles, self._looked, True)
        if not LandMargin(self._land).held(seen, self.unlooked(), known):
            return "open"
        return "sure" if House(self._land, known).outcome() == self._told else "otherwise"
