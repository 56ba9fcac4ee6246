"""Levelled: a house of which all seats that count are given anew over the whole land."""

from wholepoll.divisors import rounds_by
from wholepoll.errors import TooMany
from wholepoll.house import House, added


def levelled(land, sheets, *, most=200):
    """A tuple: the least size, the seats by hand, and the hand that needs it."""
    had = added(House(land, sheets).by_area(), land.hands)
    votes = land.votes(sheets)
    least = land.least_votes(sum(votes))
    among = [hand for hand in range(land.hands) if votes[hand] >= least]
    if not among:
        return (0, had, None)
    winners = [hand for marks, hand in rounds_by(land, votes, least, [0] * land.hands, most)]
    floor = land.evened + sum([had[hand] for hand in among])
    size = max([floor] + [_size_for(winners, hand, had[hand]) for hand in among])
    if size > most:
        raise TooMany(most)
    seats = [winners[:size].count(hand) if hand in among else had[hand] for hand in range(land.hands)]
    # Each seat goes to one hand; so one alone lacks what the last seat brought.
    return (size, seats, winners[size - 1] if size > floor else None)


def _size_for(winners, hand, seats):
    """The least size by which a hand has so many seats, one more than are given where it is none of these."""
    if seats == 0:
        return 0
    places = [place for place, winner in enumerate(winners) if winner == hand]
    return places[seats - 1] + 1 if seats <= len(places) else len(winners) + 1
