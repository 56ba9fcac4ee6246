"""Stretches: the lives of voters by a roll, and what a telling would move."""

from wholepoll.lives import area_to_vote
from wholepoll.unlike import unlike_keys


def stretches(roll, voter):
    """The life of a voter as tuples (day, area, barred), by rising days."""
    return roll.life(voter)


def moved(roll, before, after, wait):
    """The tuples (voter, area, area) of those whose area to vote in differs on two days."""
    return _differing(roll.homes(before, wait), roll.homes(after, wait))


def sizes(roll, day, wait):
    """By area, how many may vote there on a day."""
    homes = list(roll.homes(day, wait).values())
    return [homes.count(area) for area in range(roll.areas)]


def day_from(roll, voter, area, wait):
    """The least day on which a voter may vote in an area, or None."""
    life = roll.life(voter)
    starts = [stretch[0] for stretch in life]
    # What a voter may do turns only where a stretch begins, or began a wait ago.
    for day in sorted(starts + [start + wait for start in starts]):
        home = area_to_vote(life, day, wait)
        if home is not None and home == area:
            return day
    return None


def touched(roll, telling, day, wait):
    """The tuples (voter, before, after) of those whose area to vote in a telling would turn."""
    other = roll.copied()
    if not other.tell(telling):
        other.untell(telling)
    return _differing(roll.homes(day, wait), other.homes(day, wait))


def _differing(before, after):
    return [(voter, before.get(voter), after.get(voter)) for voter in unlike_keys(before, after)]
