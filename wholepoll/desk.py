"""The desk: a ledger of a poll, led and asked by rows of text."""

from wholepoll.errors import NoEnvelope, NoPoll, NoRow, NoText
from wholepoll.landmargin import LandMargin
from wholepoll.notation import show_house, show_outcome
from wholepoll.polls import Poll
from wholepoll.reaches import Ledger, idle, reached
from wholepoll.readers import read_deed, read_number
from wholepoll.words import is_word


class Desk:
    """A ledger of a new poll, whose hands have words."""

    def __init__(self, land, rules, words):
        poll = Poll(land, rules)
        if not _are_words(words, land.hands):
            raise NoPoll("words are a list or a tuple of unlike words, one for each hand")
        self._land = land
        self._words = list(words)
        self._ledger = Ledger(poll)

    def say(self, row):
        """What the desk tells to a row."""
        if not isinstance(row, str):
            raise NoRow("a row is a text")
        word, blank, rest = row.partition(" ")
        if blank == "":
            return self._say_word(word)
        if word in ("put", "out", "reach"):
            return self._say_deed(word, self._deed_of(rest))
        if word == "verdict":
            return self._verdict(rest)
        if word == "may" and is_word(rest):
            return self._may(rest)
        raise NoRow("that is no row")

    def poll(self):
        """A copy of the poll."""
        return self._ledger.poll()

    def _say_word(self, word):
        if word == "back":
            self._ledger.back()
            return str(len(self._ledger))
        if word == "again":
            self._ledger.again()
            return str(len(self._ledger))
        if word == "house":
            return show_house(self._ledger.house(), self._words)
        if word == "outcome":
            # Without the last line feed.
            return show_outcome(self._ledger.house(), self._words)[:-1]
        if word == "idle":
            return str(len(idle(self.poll())))
        if word == "deeds":
            return str(len(self.poll().deeds()))
        if word == "low":
            return _or_none(LandMargin(self._land).least(self.poll().sheets())[0])
        raise NoRow("that is no row")

    def _say_deed(self, word, deed):
        if word == "reach":
            return _shown(reached(self.poll(), deed))
        if word == "put":
            self._ledger.put(deed)
        else:
            self._ledger.out(deed)
        return str(len(self._ledger))

    def _deed_of(self, text):
        try:
            return read_deed(text, self._words, len(self._land.areas))
        except NoText:
            raise NoRow("that is no deed's text") from None

    def _verdict(self, text):
        try:
            number = read_number(text)
        except NoText:
            raise NoRow("that is no number's text") from None
        words = self.poll().verdicts()
        if number not in words:
            raise NoEnvelope("no standing envelope has that number")
        return words[number]

    def _may(self, voter):
        poll = self.poll()
        return _or_none(poll.roll().votes_in(voter, poll.rules[0], poll.rules[1]))


def _are_words(thing, hands):
    if not isinstance(thing, (list, tuple)) or len(thing) != hands:
        return False
    return all([is_word(word) for word in thing]) and len(set(thing)) == hands


def _or_none(thing):
    return "none" if thing is None else str(thing)


def _shown(told):
    """What was told to be reached: each list by commas, and whether the evened seats are others."""
    lists = [",".join([str(thing) for thing in some]) for some in told[:-1]]
    return " ".join([some if some else "-" for some in lists] + ["yes" if told[-1] else "no"])
