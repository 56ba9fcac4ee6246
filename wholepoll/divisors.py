"""Divisors: seats given one by one by marks, those of an area by lists and the evened ones of a land.

`by` is who gives them: it has the fields `hands` and `lots`, and tells `mark`.
"""

from wholepoll.ratios import fraction, under
from wholepoll.wholes import divisor, is_whole, up
from wholepoll.words import is_count

MOST_STEP = 9


def is_hurdle(thing):
    """Whether anything may be handed in as a hurdle: None, or a fraction from nought to one."""
    if thing is None:
        return True
    if not isinstance(thing, tuple) or len(thing) != 2 or not all([is_whole(part) for part in thing]):
        return False
    top, bottom = thing
    return 0 <= top <= bottom and divisor(top, bottom) == 1


def hurdle_of(thing):
    """The hurdle itself; left out, it is nought."""
    return (0, 1) if thing is None else thing


def is_step(thing):
    """Whether anything is a step, a whole number from 1 to 9."""
    return is_count(thing, MOST_STEP) and thing != 0


def votes_needed(hurdle, ballots):
    """How many votes of so many ballots a hand needs to take part."""
    return max(1, up(hurdle[0] * ballots, hurdle[1]))


def mark_by(step, many, had):
    """The mark of a hand with so many votes that has so many seats already."""
    return fraction(many, 1 + step * had)


def rounds_by(by, votes, least, had, seats):
    """A tuple (marks, hand) for each seat given, in order; beginning with the seats had."""
    so_far = list(had)
    marks = [by.mark(votes[hand], so_far[hand]) if votes[hand] >= least else None for hand in range(by.hands)]
    rounds = []
    for _ in range(seats):
        hand = _greatest(marks, by.lots)
        if hand is None:
            return []
        rounds.append((list(marks), hand))
        so_far[hand] = so_far[hand] + 1
        marks[hand] = by.mark(votes[hand], so_far[hand])
    return rounds


def seats_by(rounds, hands):
    """By hand, how many of the rounds gave it a seat."""
    given = [row[1] for row in rounds]
    return [given.count(hand) for hand in range(hands)]


def _greatest(marks, lots):
    """The hand with the greatest mark, of several the first by lots; None where none takes part."""
    best = None
    for hand in lots:
        if marks[hand] is not None and (best is None or under(marks[best], marks[hand])):
            best = hand
    return best
