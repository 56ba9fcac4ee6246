"""Tellings drawn for tests, and what they come to, reckoned plainly from the document's words."""

import random


def some_tellings(seed, many, areas=3, voters=("ann", "bob", "cy"), days=9):
    """Tellings of few numbers, days and voters, so that numbers clash and days meet."""
    draw = random.Random(seed)
    tellings = []
    for _ in range(many):
        word = draw.choice(("comes", "comes", "comes", "goes", "barred", "cleared"))
        area = draw.randrange(areas) if word == "comes" else None
        tellings.append((draw.randrange(3 * many), draw.randrange(days), draw.choice(voters), word, area))
    return tellings


def plain_standing(tellings):
    """[3.2]"""
    alone = []
    for telling in tellings:
        unlike = [other for other in tellings if other[0] == telling[0] and other != telling]
        if not unlike and telling not in alone:
            alone.append(telling)
    return sorted(alone, key=lambda telling: (telling[1], telling[0]))


def plain_place(tellings, voter, day):
    """[3.4]"""
    area = None
    for telling in plain_standing(tellings):
        if telling[2] == voter and telling[1] <= day and telling[3] in ("comes", "goes"):
            area = telling[4] if telling[3] == "comes" else None
    return area


def plain_barred(tellings, voter, day):
    """[3.4]"""
    barred = False
    for telling in plain_standing(tellings):
        if telling[2] == voter and telling[1] <= day and telling[3] in ("barred", "cleared"):
            barred = telling[3] == "barred"
    return barred


def plain_votes_in(tellings, voter, day, wait):
    """[3.4]"""
    if plain_place(tellings, voter, day) is None or plain_barred(tellings, voter, day) or day - wait < 0:
        return None
    return plain_place(tellings, voter, day - wait)
