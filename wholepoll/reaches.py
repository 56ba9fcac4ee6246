"""Reaches: what would be otherwise in a poll by one deed, and a poll that is led on deed by deed."""

from wholepoll.errors import Nothing
from wholepoll.unlike import unlike_keys, unlike_places


class Facts:
    """What of a poll a deed may reach."""

    def __init__(self, poll, house):
        self.home_by_voter = poll.roll().homes(poll.rules[0], poll.rules[1])
        self.word_by_envelope = poll.verdicts()
        self.lines_by_bundle = {}
        for box in poll.boxes():
            self.lines_by_bundle.update(box)
        self.sheet_by_area = poll.sheets()
        self.house_now = house

    def led(self, poll):
        """The facts of a poll that came of this one; only areas with other sheets are counted anew."""
        other = Facts(poll, self.house_now)
        for area in unlike_places(self.sheet_by_area, other.sheet_by_area):
            other.house_now = other.house_now.led(area, other.sheet_by_area[area])
        return other

    def reached_by(self, other):
        """The tuple of all that is otherwise in other facts."""
        areas, evened = self.house_now.outcome()
        areas_there, evened_there = other.house_now.outcome()
        return (
            unlike_keys(self.home_by_voter, other.home_by_voter),
            unlike_keys(self.word_by_envelope, other.word_by_envelope),
            unlike_keys(self.lines_by_bundle, other.lines_by_bundle),
            unlike_places(self.sheet_by_area, other.sheet_by_area),
            unlike_places(areas, areas_there),
            evened != evened_there,
        )


def reached(poll, deed):
    """What would be otherwise if a deed were put in, where it isn't there, or taken out, where it is."""
    # Asked first: it refuses what is no deed.
    other = _turned(poll, deed)
    facts = _facts_of(poll)
    return facts.reached_by(facts.led(other))


def idle(poll):
    """The deeds that came of each of which alone nothing is reached."""
    facts = _facts_of(poll)
    nothing = ([], [], [], [], [], False)
    return [deed for deed in poll.deeds() if facts.reached_by(facts.led(_turned(poll, deed))) == nothing]


class Ledger:
    """A poll and its House, led on by puts and outs that can be undone and done anew."""

    def __init__(self, poll):
        self._poll = poll.copied()
        self._facts = _facts_of(self._poll)
        # Each a tuple (word, deed, turned): whether the set of the deeds was another one behind it.
        self._done = []
        self._undone = []

    def __len__(self):
        return len(self._done)

    def put(self, deed):
        """Puts a deed in; answers what was reached."""
        return self._say_done("put", deed, self._poll.put(deed))

    def out(self, deed):
        """Takes a deed out; answers what was reached."""
        self._poll.out(deed)
        return self._say_done("out", deed, True)

    def house(self):
        """The House of the poll as it is."""
        return self._facts.house_now

    def poll(self):
        """A copy of the poll as it is."""
        return self._poll.copied()

    def back(self):
        """Undoes the last put or out that was done and not undone, and tells it."""
        if len(self._done) == 0:
            raise Nothing("nothing was done that could be undone")
        word, deed, turned = self._done.pop()
        self._undone.append((word, deed, turned))
        self._turn(word == "out", deed, turned)
        return (word, deed)

    def again(self):
        """Does the put or out anew that was undone last, where none was done since, and tells it."""
        if len(self._undone) == 0:
            raise Nothing("nothing was undone that could be done anew")
        word, deed, turned = self._undone.pop()
        self._done.append((word, deed, turned))
        self._turn(word == "put", deed, turned)
        return (word, deed)

    def log(self):
        """The puts and outs that stand."""
        return [(word, deed) for word, deed, _ in self._done]

    def _say_done(self, word, deed, turned):
        self._done.append((word, deed, turned))
        self._undone = []
        return self._lead()

    def _turn(self, comes, deed, turned):
        if comes:
            self._poll.put(deed)
        elif turned:
            self._poll.out(deed)
        self._lead()

    def _lead(self):
        """Leads the facts on to the poll as it is; tells what was reached."""
        before = self._facts
        self._facts = before.led(self._poll)
        return before.reached_by(self._facts)


def _facts_of(poll):
    return Facts(poll, poll.house())


def _turned(poll, deed):
    """The poll with a deed put in, where it isn't there, or taken out, where it is."""
    other = poll.copied()
    if not other.put(deed):
        other.out(deed)
    return other
