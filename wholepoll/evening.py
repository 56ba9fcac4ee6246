"""Evening: further seats of a land, given by the votes of all its areas."""

from wholepoll.divisors import rounds_by, seats_by


def evening(land, votes, had):
    """The paper of evening: the votes, how many are needed to take part, and the rounds."""
    least = land.least_votes(sum(votes))
    return (list(votes), least, rounds_by(land, votes, least, had, land.evened))


def evened_by(land, paper):
    """By hand how many of a paper's rounds gave it a seat."""
    return seats_by(paper[2], land.hands)


def waiting(land, votes, had):
    """The tuples (mark, hand) for which seats would be given, the greatest first."""
    # A hand's marks only fall as it has more seats; so seat by seat the greatest of all are taken.
    return [(marks[hand], hand) for marks, hand in evening(land, votes, had)[2]]
