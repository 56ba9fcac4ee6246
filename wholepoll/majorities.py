"""Majorities: which groups of hands win in what can still be, and of which areas it hangs."""

from wholepoll.chances import Chances, summed
from wholepoll.power import wins
from wholepoll.sets import all_of, innermost
from wholepoll.stillland import houses


def sure_majorities(land, seen, unseen):
    """The groups, rising, that win in all houses that can still be, without those that have another one in them."""
    some = houses(land, seen, unseen)
    groups = range(all_of(land.hands) + 1)
    return innermost([group for group in groups if all([wins(one, group) for one in some])])


def can_win(land, seen, unseen, group):
    """Whether a group wins in some of the houses that can still be."""
    return any([wins(one, group) for one in houses(land, seen, unseen)])


def open_areas(land, seen, unseen):
    """The areas, rising, by whose unseen ballots alone several outcomes can be, for some ballots of all others."""
    chances = Chances(land, seen, unseen)
    return [area for area in range(len(land.areas)) if _is_open(chances, area)]


def _is_open(chances, area):
    own = chances.of_area(area)
    if len({outcome for outcome, votes in own}) > 1:
        return True
    # Its own outcome is the same by all its ballots; so only the evened seats can still hang on them.
    outcome = own[0][0]
    for others, votes in chances.together(chances.areas_but(area)):
        if len({chances.evened_for(others + (outcome,), summed(votes, more)) for _, more in own}) > 1:
            return True
    return False
