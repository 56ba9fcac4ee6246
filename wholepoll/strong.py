"""Strong: leads of hands over hands, and the strongest ways among them."""

from wholepoll.sets import members, with_one


def overs(sheet, hands):
    """By x, then by y, how many ballots have x ahead of y."""
    many = [[0] * hands for _ in range(hands)]
    for slip, number in sheet:
        behind = list(range(hands))
        for tier in slip:
            level = members(tier)
            behind = [hand for hand in behind if hand not in level]
            for x in level:
                row = many[x]
                for y in behind:
                    row[y] = row[y] + number
    return many


def leads_of(many):
    """By x, then by y, how many more ballots have x ahead of y than y ahead of x."""
    among = range(len(many))
    return [[many[x][y] - many[y][x] for y in among] for x in among]


def strength(leads):
    """By x, then by y, how strong the strongest way from x to y is; 0 where x is y."""
    return [strongest_from(leads, x)[0] for x in range(len(leads))]


def way_between(leads, x, y):
    """A way from x to y that is as strong as the strength of x over y."""
    return way_back(strongest_from(leads, x)[1], x, y)


def cut_between(leads, x, y):
    """A cut between x and y with no link greater than the strength of x over y."""
    return cut_by(strongest_from(leads, x)[0], x, y)


def strongest_from(leads, x):
    """By hand, how strong the strongest way from x is, and the hand ahead of the last one on it."""
    best = list(leads[x])
    before = [x] * len(leads)
    left = [hand for hand in range(len(leads)) if hand != x]
    while left:
        # No way over those left is stronger than the best one to any of them, so its own can't grow.
        near = max([(best[hand], hand) for hand in left])[1]
        left.remove(near)
        for hand in left:
            link = min(best[near], leads[near][hand])
            if link > best[hand]:
                best[hand] = link
                before[hand] = near
    return (best, before)


def way_back(before, x, y):
    """The way from x to y, found from its end by the hands ahead of each."""
    way = [y]
    while way[0] != x:
        way.insert(0, before[way[0]])
    return way


def cut_by(best, x, y):
    """The cut of x and of all hands that x reaches by stronger ways than it reaches y."""
    cut = with_one(0, x)
    for hand in range(len(best)):
        # A greater link out of the cut would make as strong a way to the hand behind it.
        if hand != x and best[hand] > best[y]:
            cut = with_one(cut, hand)
    return cut
