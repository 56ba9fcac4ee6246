"""Stillarea: what an area that counts by lists can still come to while some ballots are to come."""

from wholepoll.divisors import rounds_by
from wholepoll.lists import sheet_by, votes_of
from wholepoll.ratios import least_above, least_from, times
from wholepoll.sets import all_of, holds, members, with_one
from wholepoll.sheets import ballots_in


def greatest_seats(way, sheet, unseen, group):
    """How many seats the hands of a group have together at most, whatever the unseen ballots are."""
    low = 0
    high = way.seats
    # More seats never need fewer ballots; so the number is found by halving.
    while low < high:
        middle = (low + high + 1) // 2
        if _is_enough(_needed(way, sheet, unseen, group, middle), unseen):
            low = middle
        else:
            high = middle - 1
    return low


def least_seats(way, sheet, unseen, group):
    """How many seats the hands of a group have together at least, whatever the unseen ballots are."""
    if not _takes_part(way, sheet, unseen, group):
        return 0
    # Some hand takes part, so all seats are given: what the others do not have the group has.
    return way.seats - greatest_seats(way, sheet, unseen, _others(way, group))


def bring(way, sheet, unseen, group, seats):
    """A sheet of the unseen ballots with which a group has no more than so many seats, or None."""
    if seats < 0:
        return None
    votes = {}
    if seats < way.seats and _takes_part(way, sheet, unseen, group):
        votes = _needed(way, sheet, unseen, _others(way, group), way.seats - seats)
        if not _is_enough(votes, unseen):
            return None
    return sheet_by([votes.get(hand, 0) for hand in range(way.hands)] + [unseen - _added_up(votes)])


def sure_seats(way, sheet, unseen):
    """By hand the least seats of it alone."""
    return [least_seats(way, sheet, unseen, with_one(0, hand)) for hand in range(way.hands)]


def _others(way, group):
    return all_of(way.hands) & ~group


def _least_votes(way, sheet, unseen):
    return way.least_votes(ballots_in(sheet) + unseen)


def _takes_part(way, sheet, unseen, group):
    """Whether a hand of a group takes part with no ballots but those seen."""
    votes = votes_of(sheet, way.hands)
    least = _least_votes(way, sheet, unseen)
    return any([votes[hand] >= least for hand in members(group)])


def _is_enough(votes, unseen):
    return votes is not None and _added_up(votes) <= unseen


def _added_up(votes):
    return sum(list(votes.values()))


def _needed(way, sheet, unseen, group, seats):
    """The fewest votes more, by hand, with which a group has so many seats, from 1 on; None where none do."""
    votes = votes_of(sheet, way.hands)
    least = _least_votes(way, sheet, unseen)
    bar = _bar(way, votes, least, group, seats)
    # By the number of seats so far, the cheapest votes by hand.
    best = {0: {}}
    for hand in members(group):
        prices = [_price(way, votes[hand], least, bar, hand, more) for more in range(seats + 1)]
        best = _with_hand(best, hand, prices)
    return best.get(seats)


def _with_hand(best, hand, prices):
    """The cheapest votes by the number of seats, where one hand more may have some of them."""
    found = {}
    for many in best:
        paid = _added_up(best[many])
        for more in range(len(prices) - many):
            if many + more not in found or paid + prices[more] < _added_up(found[many + more]):
                found[many + more] = {**best[many], hand: prices[more]}
    return found


def _bar(way, votes, least, group, seats):
    """The mark, and its hand, that a group must go ahead of so many times; None where no other hand takes part."""
    # Who is in the group takes no part here: so the rounds are those of the others alone.
    others = [-1 if holds(group, hand) else votes[hand] for hand in range(way.hands)]
    rounds = rounds_by(way, others, least, [0] * way.hands, way.seats)
    if not rounds:
        return None
    marks, hand = rounds[way.seats - seats]
    return (marks[hand], hand)


def _price(way, many, least, bar, hand, seats):
    """How many votes more a hand with so many needs for so many marks ahead of the bar."""
    if seats == 0:
        return 0
    wanted = least
    if bar is not None:
        mark, other = bar
        even = times(mark, (1 + way.step * (seats - 1), 1))
        wanted = max(least, least_from(even) if way.ahead(hand, other) else least_above(even))
    return max(0, wanted - many)
