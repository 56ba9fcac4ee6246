"""Lives: what the standing tellings of a voter come to, stretch by stretch.

A life is a list of tuples (day, area, barred), by rising days, the first of
day 0; each holds up to the next one.
"""

from wholepoll.tellings import lives_by, standing


def lives_of(tellings):
    """The dict of the lives, by voter, rising, of whom a standing telling tells."""
    by_voter = {}
    for telling in standing(tellings):
        by_voter.setdefault(telling[2], []).append(telling)
    return {voter: life_of(by_voter[voter]) for voter in sorted(by_voter)}


def life_of(tellings):
    """The life by one voter's standing tellings, which come in their order."""
    area = None
    barred = False
    by_day = {0: (area, barred)}
    for telling in tellings:
        if lives_by(telling):
            area = telling[4]
        else:
            barred = telling[3] == "barred"
        # The last telling of a day settles the day, so an earlier one is put over.
        by_day[telling[1]] = (area, barred)
    return _without_repeats(by_day)


def state_on(life, day):
    """The area lived in on a day, and whether barred on it, as a tuple."""
    found = life[0]
    for stretch in life:
        if stretch[0] <= day:
            found = stretch
    return (found[1], found[2])


def area_to_vote(life, day, wait):
    """The area to vote in on a day: that of so many days earlier, or None."""
    area, barred = state_on(life, day)
    if area is None or barred or day < wait:
        return None
    earlier = state_on(life, day - wait)
    return earlier[0]


def _without_repeats(by_day):
    life = []
    for day, (area, barred) in by_day.items():
        if not life or life[-1][1] != area or life[-1][2] != barred:
            life.append((day, area, barred))
    return life
