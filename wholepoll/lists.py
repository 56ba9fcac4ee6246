"""Lists: seats given one by one to lists of candidates, by divisors with a hurdle."""

from wholepoll.divisors import hurdle_of, is_hurdle, is_step, mark_by, rounds_by, seats_by, votes_needed
from wholepoll.errors import NoWay
from wholepoll.sets import members, with_one
from wholepoll.sheets import joined
from wholepoll.ways import Way


def voted_for(slip):
    """The hand that a ballot is a vote for, None where it is idle."""
    if len(slip) == 0:
        return None
    first = members(slip[0])
    return first[0] if len(first) == 1 else None


def votes_of(sheet, hands):
    """By hand how many ballots are votes for it, and last how many are idle."""
    votes = [0] * (hands + 1)
    for slip, number in sheet:
        hand = voted_for(slip)
        place = hands if hand is None else hand
        votes[place] = votes[place] + number
    return votes


def sheet_by(votes):
    """A sheet with so many votes by hand, and last so many empty ballots."""
    lines = [((with_one(0, hand),), many) for hand, many in enumerate(votes[:-1])]
    lines.append(((), votes[-1]))
    return joined([[line for line in lines if line[1] > 0]])


class Lists(Way):
    """The way of counting by lists."""

    def __init__(self, hands, seats, lots=None, hurdle=None, step=1):
        Way.__init__(self, hands, seats, lots)
        if not is_hurdle(hurdle):
            raise NoWay("a hurdle is a fraction from nought to one")
        if not is_step(step):
            raise NoWay("a step is a whole number from 1 to 9")
        self.hurdle = hurdle_of(hurdle)
        self.step = step

    def least_votes(self, ballots):
        """How many votes a hand needs to take part, of so many ballots in all."""
        return votes_needed(self.hurdle, ballots)

    def mark(self, many, had):
        """The mark of a hand with so many votes that has so many seats already."""
        return mark_by(self.step, many, had)

    def counted(self, sheet):
        """The paper of a sheet: the votes, how many are needed to take part, and the rounds."""
        votes = votes_of(sheet, self.hands)
        least = self.least_votes(sum(votes))
        return (votes, least, rounds_by(self, votes, least, [0] * self.hands, self.seats))

    def told_by(self, paper):
        """The outcome that a paper shows: by hand how many of the rounds gave it a seat."""
        return seats_by(paper[2], self.hands)

    def outcome(self, sheet):
        """The outcome of a sheet: that which its own paper shows."""
        return super().outcome(sheet)
