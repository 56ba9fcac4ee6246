"""Slips and sheets drawn for tests, or gone through in full."""

import copy
import itertools

from wholepoll.ballots import slip_of
from wholepoll.sheets import joined


def all_slips(hands):
    """Every slip of so many hands, in order."""
    return sorted({slip_of(list(ranks), hands) for ranks in itertools.product(range(hands + 1), repeat=hands)})


def any_slip(draw, hands):
    """A slip: any tiers, often with level and unranked hands, sometimes empty."""
    most = draw.choice((0, 1, 2, hands, hands))
    return slip_of([draw.randint(0, most) for _ in range(hands)], hands)


def any_sheet(draw, hands, lines=6, most=9):
    """A sheet of up to so many lines, perhaps none."""
    return joined([[(any_slip(draw, hands), draw.randint(1, most)) for _ in range(draw.randint(0, lines))]])


def votes_sheet(draw, hands, most=9):
    """A sheet of votes for lists, some with more behind, and idle ballots of both kinds."""
    lines = [((1 << hand,), draw.randint(0, most)) for hand in range(hands)]
    if hands > 1:
        lines.extend([((1, 2), draw.randint(0, 2)), ((3,), draw.randint(0, 2))])
    lines.append(((), draw.randint(0, 3)))
    return joined([[line for line in lines if line[1] > 0]])


def any_lots(draw, hands):
    """An order of all hands, or None."""
    order = list(range(hands))
    draw.shuffle(order)
    return draw.choice((None, order))


def sheets_of(slips, ballots):
    """Every sheet of so many ballots with some of these slips."""
    found = []
    for some in itertools.combinations_with_replacement(slips, ballots):
        found.append(joined([[(slip, 1) for slip in some]]))
    return found


def sheets_from(sheet, slips, most):
    """Every sheet that a change of up to so many ballots makes of one, each with how many must be changed."""
    reached = {tuple(sheet): 0}
    newest = [sheet]
    for many in range(1, most + 1):
        former, newest = newest, []
        for one in former:
            for (old, number), new in itertools.product(one, slips):
                lines = [(slip, left - (slip == old)) for slip, left in one] + [(new, 1)]
                other = joined([[line for line in lines if line[1] > 0]])
                if tuple(other) not in reached:
                    reached[tuple(other)] = many
                    newest.append(other)
    return [(list(one), many) for one, many in reached.items()]


def spoiled(thing):
    """Every list and dict within a thing is emptied, as an asker may do."""
    if isinstance(thing, dict):
        for inner in thing.values():
            spoiled(inner)
        thing.clear()
    elif isinstance(thing, (list, tuple)):
        for inner in thing:
            spoiled(inner)
        if isinstance(thing, list):
            thing.clear()


def is_told_anew(ask):
    """Whether a question is answered alike behind an asker who emptied all lists and dicts told."""
    told = ask()
    kept = copy.deepcopy(told)
    spoiled(told)
    return ask() == kept and told != kept
