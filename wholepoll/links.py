"""Links: what papers tell of ways and cuts, held against leads."""

from wholepoll.sets import all_of, holds, members


def is_way(way, x, y, hands):
    """Whether a list of whole numbers is a way from x to another hand y."""
    if len(way) < 2 or way[0] != x or way[-1] != y:
        return False
    return all([0 <= hand < hands for hand in way]) and len(set(way)) == len(way)


def is_cut(cut, x, y, hands):
    """Whether a whole number is a cut between x and another hand y."""
    return 0 <= cut <= all_of(hands) and holds(cut, x) and not holds(cut, y)


def least_link(leads, way):
    """The least link of a way."""
    return min([leads[way[k]][way[k + 1]] for k in range(len(way) - 1)])


def greatest_link(leads, cut):
    """The greatest link of a cut."""
    inside = members(cut)
    outside = [hand for hand in range(len(leads)) if not holds(cut, hand)]
    return max([leads[x][y] for x in inside for y in outside])
