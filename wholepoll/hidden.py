"""Hidden: what published lists leave open of a voter, and what they tell."""

from wholepoll.published import voters_of


def groups(listings):
    """The lists of the voters who stand in just the same listings, by their first voters."""
    by_place = {}
    for voter in voters_of(listings):
        places = tuple([place for place, listing in enumerate(listings) if voter in listing[0]])
        by_place.setdefault(places, []).append(voter)
    return list(by_place.values())


def clash(listings):
    """Whether no votes fit."""
    return how_many(listings) == 0


def how_many(listings):
    """How many votes fit."""
    return len(_all_votes(listings))


def may_say(listings, voter):
    """The slips, rising, that a voter has in some votes that fit."""
    return sorted({votes[voter] for votes in _all_votes(listings) if voter in votes})


def votes_with(listings, voter, slip):
    """Votes that fit in which the voter has the slip, or None."""
    for votes in _all_votes(listings):
        if voter in votes and votes[voter] == slip:
            return votes
    return None


def known(listings):
    """The dict from the voters, rising, who have one slip in all votes that fit, to it."""
    told = _all_votes(listings)
    if not told:
        return {}
    first = told[0]
    return {voter: first[voter] for voter in first if all([votes[voter] == first[voter] for votes in told])}


def newly_known(listings, listing):
    """The voters, rising, whom `known` tells with a listing more, but not without it."""
    before = known(listings)
    return [voter for voter in known(listings + [listing]) if voter not in before]


def _all_votes(listings):
    """All votes that fit, each with its voters rising."""
    found = [{}]
    for voter in voters_of(listings):
        found = [{**votes, voter: slip} for votes in found for slip in _open_slips(listings, votes, voter)]
    return found


def _open_slips(listings, votes, voter):
    """The slips that are left for a voter in each of its listings, behind the votes of those ahead of it."""
    about = [listing for listing in listings if voter in listing[0]]
    # A listing has as many slips as voters; so where none is said too often, all are said.
    return [slip for slip in sorted(set(about[0][1])) if all([_is_left(one, votes, slip) for one in about])]


def _is_left(listing, votes, slip):
    voters, slips = listing
    said = len([voter for voter in voters if voter in votes and votes[voter] == slip])
    return said < slips.count(slip)
