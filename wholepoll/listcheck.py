"""Listcheck: whether a paper of Lists is right."""

from wholepoll.ways import Checker


class ListsChecker(Checker):
    """A checker of the papers of a Lists."""

    def right(self, sheet, paper):
        """Whether a paper is right for a sheet: just the one that its way tells."""
        return paper == self.way.counted(sheet)
