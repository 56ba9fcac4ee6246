"""Boxes: the bundles of an election."""

from wholepoll.codes import code_of, line_of
from wholepoll.errors import NoBundle, NoWay, WrongNumber
from wholepoll.seals import mended, seal_of
from wholepoll.sheets import apart, ballots_in, joined, sheet_of
from wholepoll.words import is_count


class Box:
    """The bundles of an election with so many hands, numbered from 0."""

    def __init__(self, hands):
        if not is_count(hands, 12) or hands == 0:
            raise NoWay("there are 1 to 12 hands")
        self.hands = hands
        self._bundles = []

    def many(self):
        """How many bundles there are."""
        return len(self._bundles)

    def take(self, codes, seal):
        """Takes a bundle; answers its number and the place that was mended."""
        right, place = mended(codes, seal)
        lines = [line_of(code, self.hands) for code in right]
        self._bundles.append(lines)
        return (len(self._bundles) - 1, place)

    def lines_at(self, k):
        """The lines of a bundle, as they lie."""
        if not is_count(k, len(self._bundles) - 1):
            raise NoBundle("no bundle has that number")
        return list(self._bundles[k])

    def sheet_at(self, k):
        """The sheet of a bundle."""
        return sheet_of(self.lines_at(k))

    def seal_at(self, k):
        """The seal of the codes of a bundle, as they lie now."""
        return seal_of([code_of(line, self.hands) for line in self.lines_at(k)])

    def sheet(self):
        """The sheet of all bundles."""
        return joined(self._bundles)

    def put_right(self, k, lines):
        """Puts a recount in a bundle's place; answers how many of its ballots the new lines lack."""
        before = self.sheet_at(k)
        after = sheet_of(lines)
        wanted = ballots_in(before)
        got = ballots_in(after)
        if wanted != got:
            raise WrongNumber(wanted, got)
        self._bundles[k] = list(lines)
        return apart(before, after)
