"""Ballots: what one of them says, as ranks and as a slip."""

from wholepoll.errors import NoBallot
from wholepoll.sets import holds, members, with_one
from wholepoll.words import MOST, is_count


def slip_of(ranks, hands):
    """The slip of a list of ranks, by hand; 0 is unranked, else less is better."""
    if not _are_ranks(ranks, hands):
        raise NoBallot("ranks are a list with a whole number for each hand")
    tiers = {}
    for hand, rank in enumerate(ranks):
        if rank > 0:
            tiers[rank] = with_one(tiers.get(rank, 0), hand)
    return tuple([tiers[rank] for rank in sorted(tiers)])


def ranks_of(slip, hands):
    """The ranks without gaps of a slip, by hand."""
    ranks = [0] * hands
    for place, tier in enumerate(slip):
        for hand in members(tier):
            ranks[hand] = place + 1
    return ranks


def prefers(slip, x, y):
    """1 where x stands ahead of y on a slip, -1 where y does, 0 where they are level."""
    place_of_x = _place(slip, x)
    place_of_y = _place(slip, y)
    if place_of_x < place_of_y:
        return 1
    if place_of_y < place_of_x:
        return -1
    return 0


def lies(slip, standing):
    """The standing hands of the first tier that has one; 0 where none has."""
    for tier in slip:
        if tier & standing != 0:
            return tier & standing
    return 0


def _are_ranks(thing, hands):
    if not isinstance(thing, list) or len(thing) != hands:
        return False
    return all([is_count(rank, MOST) for rank in thing])


def _place(slip, hand):
    for place, tier in enumerate(slip):
        if holds(tier, hand):
            return place
    # Unranked hands are behind every tier and level with one another.
    return len(slip)
