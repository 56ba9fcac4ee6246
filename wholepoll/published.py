"""Published lists: listings (voters, slips), which tell what was said, but not who said which."""

from wholepoll.sheets import is_slip
from wholepoll.words import is_word


def is_listing(thing, hands):
    """Whether anything is a listing with slips of so many hands."""
    if not isinstance(thing, tuple) or len(thing) != 2:
        return False
    voters, slips = thing
    if not _are_voters(voters) or not isinstance(slips, tuple) or len(slips) != len(voters):
        return False
    # Asked first: things of other kinds can't be put in order.
    return all([is_slip(slip, hands) for slip in slips]) and list(slips) == sorted(slips)


def listing_of(votes, voters):
    """The listing of some voters, in whatever order they come."""
    return (tuple(sorted(voters)), tuple(sorted([votes[voter] for voter in voters])))


def fits(listings, votes):
    """Whether votes have just the voters of the listings, and each listing is that of its voters."""
    if sorted(votes) != voters_of(listings):
        return False
    return all([listing_of(votes, listing[0]) == listing for listing in listings])


def voters_of(listings):
    """The voters of all listings, each once, rising."""
    return sorted({voter for voters, slips in listings for voter in voters})


def _are_voters(thing):
    if not isinstance(thing, tuple) or len(thing) == 0:
        return False
    if not all([is_word(voter) for voter in thing]):
        return False
    return all([thing[k] < thing[k + 1] for k in range(len(thing) - 1)])
