"""Codes: lines written as whole numbers."""

from wholepoll.ballots import ranks_of, slip_of
from wholepoll.errors import NoBallot
from wholepoll.wholes import is_whole
from wholepoll.words import MOST

# One more than the greatest rank without gaps that there can be.
BASE = 13


def code_of(line, hands):
    """The code of a line."""
    slip, code = line
    for rank in ranks_of(slip, hands):
        code = code * BASE + rank
    return code


def line_of(code, hands):
    """The line that has a code."""
    if not is_whole(code) or code < 0:
        raise NoBallot("a code is a whole number from 0 on")
    number = code
    ranks = []
    for _ in range(hands):
        number, rank = divmod(number, BASE)
        ranks.insert(0, rank)
    if not 1 <= number <= MOST:
        raise NoBallot("a line has from 1 to 10 ** 9 ballots")
    slip = slip_of(ranks, hands)
    if ranks_of(slip, hands) != ranks:
        raise NoBallot("the ranks of a line are without gaps")
    return (slip, number)
