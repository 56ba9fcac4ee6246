"""Cases: by which changes seats that are given by marks would be given otherwise.

`by` is who gives them, an area that counts by lists or a land: it has the fields `hands` and `step`, and tells
`least_votes`, `mark` and `ahead`. `had` are the seats by hand to begin with, `given` those that are given.
"""

from wholepoll.lists import voted_for
from wholepoll.ratios import fraction, least_above, least_from, under
from wholepoll.sets import with_one


def cases_of(by, votes, had, given):
    """The tuples (word, b, a, need) of all that makes other seats, each with the fewest ballots for it."""
    hands = range(by.hands)
    least = by.least_votes(sum(votes))
    if not any([votes[a] >= least for a in hands]):
        return [("rise", None, a, least - votes[a]) for a in hands]
    so_far = [had[hand] + given[hand] for hand in hands]
    cases = []
    for b in hands:
        if given[b] > 0:
            cases.append(("fall", b, None, votes[b] - least + 1))
            passing = [("pass", b, a, _need(by, votes, least, so_far, b, a)) for a in hands if a != b]
            cases.extend(passing)
    return cases


def least_need(cases):
    """The least need of some cases."""
    return min([case[3] for case in cases])


def lines_for(sheet, case):
    """The lines of a sheet whose ballots are changed by what a case tells of."""
    word, b, a, _ = case
    if word == "rise":
        return [line for line in sheet if voted_for(line[0]) != a]
    return [line for line in sheet if voted_for(line[0]) == b]


def slip_by(case):
    """The slip that the ballots get by what a case tells of."""
    return () if case[0] == "fall" else (with_one(0, case[2]),)


def can_turn(by, votes, unseen, least, had, given):
    """Whether some ballots unseen, beside the votes of those seen, make other seats than those given."""
    hands = range(by.hands)
    if unseen == 0:
        return False
    risers = [a for a in hands if votes[a] + unseen >= least]
    holders = [b for b in hands if given[b] > 0]
    if not holders:
        return len(risers) > 0
    if any([votes[b] < least for b in holders]):
        return True
    so_far = [had[hand] + given[hand] for hand in hands]
    return any([_may_pass(by, votes, unseen, so_far, b, a) for b in holders for a in risers if a != b])


def _need(by, votes, least, so_far, b, a):
    """The fewest ballots that go from b to a, until a has a seat that b had."""
    # With k ballots moved (votes of a + k) / low stands against (votes of b - k) / high.
    low = 1 + by.step * so_far[a]
    high = 1 + by.step * (so_far[b] - 1)
    even = fraction(votes[b] * low - votes[a] * high, low + high)
    moved = least_from(even) if by.ahead(a, b) else least_above(even)
    return max(least - votes[a], min(votes[b] - least + 1, moved))


def _may_pass(by, votes, unseen, so_far, b, a):
    waits = by.mark(votes[a] + unseen, so_far[a])
    stays = by.mark(votes[b], so_far[b] - 1)
    return under(stays, waits) or (waits == stays and by.ahead(a, b))
