"""The house: how many seats each hand has, by area, by evening, and in all."""

from wholepoll.evening import evened_by, evening


class House:
    """The house of a land by the sheets of its areas."""

    def __init__(self, land, sheets):
        self._land = land
        self._sheets = [list(sheet) for sheet in sheets]
        # By area, as soon as it was asked for; so a house that is led on counts one area alone.
        self._outcomes = {}

    def by_area(self):
        """The outcomes of the areas."""
        return [self._outcome_of(area) for area in range(len(self._land.areas))]

    def of_evening(self):
        """By hand the evened seats."""
        return evened_by(self._land, self._evening())

    def outcome(self):
        """A tuple: the outcomes of the areas, and the evened seats."""
        return (self.by_area(), self.of_evening())

    def in_all(self):
        """By hand the seats in all."""
        return added(self.by_area() + [self.of_evening()], self._land.hands)

    def paper(self):
        """A tuple: the papers of the areas, and the paper of evening."""
        papers = [way.counted(sheet) for way, sheet in zip(self._land.areas, self._sheets)]
        return (papers, self._evening())

    def led(self, area, sheet):
        """The House in which one area has another sheet."""
        sheets = list(self._sheets)
        sheets[area] = sheet
        other = House(self._land, sheets)
        other._outcomes = {one: self._outcomes[one] for one in self._outcomes if one != area}
        return other

    def _outcome_of(self, area):
        if area not in self._outcomes:
            self._outcomes[area] = self._land.areas[area].outcome(self._sheets[area])
        return list(self._outcomes[area])

    def _evening(self):
        """The paper of evening, which begins with all seats of the areas."""
        had = added(self.by_area(), self._land.hands)
        return evening(self._land, self._land.votes(self._sheets), had)


def added(rows, hands):
    """By hand the seats of some outcomes together."""
    return [sum([row[hand] for row in rows]) for hand in range(hands)]
