"""Deeds drawn for tests, and what they come to, reckoned plainly from the document's words."""

from tests.draws import any_slip
from wholepoll.admitted import verdicts
from wholepoll.house import House
from wholepoll.lands import Land
from wholepoll.lists import Lists
from wholepoll.pairs import Pairs
from wholepoll.rolls import Roll
from wholepoll.sheets import joined

VOTERS = ("ann", "bob", "cy")
RULES = (9, 2, 1, 7)
LAND = Land([Lists(3, 2), Pairs(3, 1)], 2, [2, 0, 1])
BY_LISTS = Land([Lists(2, 2), Lists(2, 1, [1, 0])], 1)
WORDS = ["red", "green", "blue"]


def any_lines(draw, hands, most=3):
    return tuple((any_slip(draw, hands), draw.randint(1, 4)) for _ in range(draw.randint(0, most)))


def any_telling(draw, areas):
    word = draw.choice(("comes", "comes", "comes", "goes", "barred", "cleared"))
    area = draw.randrange(areas) if word == "comes" else None
    return (draw.randrange(8), draw.randrange(9), draw.choice(VOTERS), word, area)


def any_deed(draw, land, numbers=12):
    """A deed of few numbers and voters, so that numbers clash and deeds meet."""
    number, areas, hands = draw.randrange(numbers), len(land.areas), land.hands
    word = draw.choice(("roll", "roll", "roll", "mail", "mail", "mail", "strike", "bundle", "bundle", "recount", "void"))
    if word == "roll":
        return (word, number, any_telling(draw, areas))
    if word == "mail":
        area = draw.choice((0, 0, 1, 1, 5))
        return (word, number, (draw.randrange(6), draw.choice(VOTERS), area, draw.randrange(9), any_slip(draw, hands)))
    if word == "bundle":
        return (word, number, draw.randrange(areas), any_lines(draw, hands))
    if word == "recount":
        return (word, number, draw.randrange(numbers), any_lines(draw, hands))
    return (word, number, draw.randrange(6 if word == "strike" else numbers))


def some_deeds(draw, land, many=14, numbers=None):
    """Deeds, some of them perhaps several times; recounts often of as many ballots as some bundle."""
    deeds = [any_deed(draw, land, numbers or 2 * many) for _ in range(many)]
    for deed in list(deeds):
        if deed[0] == "bundle" and draw.random() < 0.6:
            total = sum(number for slip, number in deed[3])
            lines = ((any_slip(draw, land.hands), total),) if total else ()
            deeds.append(("recount", draw.randrange(2 * many), deed[1], lines))
    return deeds


def plain_standing(deeds):
    """[11.1]"""
    alone = [deed for deed in deeds if all(other == deed for other in deeds if other[1] == deed[1])]
    void = [deed[2] for deed in alone if deed[0] == "void"]
    left = {deed for deed in alone if deed[0] == "void" or deed[1] not in void}
    return sorted(left, key=lambda deed: deed[1])


def ballots_of(lines):
    return sum(number for slip, number in lines)


def plain_bundles(deeds, areas):
    """[11.2]"""
    by_area = [{} for _ in range(areas)]
    left = plain_standing(deeds)
    for word, number, *rest in left:
        if word == "bundle":
            area, lines = rest
            fitting = [deed for deed in left if deed[0] == "recount" and deed[2] == number and ballots_of(deed[3]) == ballots_of(lines)]
            by_area[area][number] = list(max(fitting, key=lambda deed: deed[1])[3] if fitting else lines)
    return by_area


def plain_facts(land, rules, deeds):
    """[11.3] [11.4] All that a poll tells, from the set of its deeds."""
    left = plain_standing(deeds)
    roll = Roll(len(land.areas), [deed[2] for deed in left if deed[0] == "roll"])
    envelopes = sorted({deed[2] for deed in left if deed[0] == "mail"})
    struck = sorted({deed[2] for deed in left if deed[0] == "strike"})
    words = verdicts(roll, rules, envelopes, struck)
    mail = []
    for area in range(len(land.areas)):
        counting = [one for one in envelopes if words.get(one[0]) == "counts" and one[2] == area]
        mail.append(joined([[(one[4], 1)] for one in counting]))
    boxes = plain_bundles(deeds, len(land.areas))
    sheets = [joined([sheet] + list(box.values())) for sheet, box in zip(mail, boxes)]
    return {
        "standing": left, "told": roll.told(), "envelopes": envelopes, "struck": struck, "verdicts": words, "mail": mail,
        "boxes": boxes, "sheets": sheets, "outcome": House(land, sheets).outcome(),
        "homes": {voter: roll.votes_in(voter, rules[0], rules[1]) for voter in VOTERS},
    }


def facts_of(poll):
    """The same, as a poll itself tells it."""
    roll, (day, wait, _, _) = poll.roll(), poll.rules
    return {
        "standing": poll.standing(), "told": roll.told(), "envelopes": poll.envelopes(), "struck": poll.struck(),
        "verdicts": poll.verdicts(), "mail": poll.mail(), "boxes": poll.boxes(), "sheets": poll.sheets(),
        "outcome": poll.house().outcome(), "homes": {voter: roll.votes_in(voter, day, wait) for voter in VOTERS},
    }


def unlike(one, other):
    """The keys, or places, rising, at which two facts differ."""
    if isinstance(one, dict):
        return [key for key in sorted({*one, *other}) if one.get(key) != other.get(key)]
    return [place for place in range(len(one)) if one[place] != other[place]]


def plain_reached(land, rules, deeds, deed):
    """[11.5]"""
    after = [one for one in deeds if one != deed] if deed in deeds else deeds + [deed]
    one, other = plain_facts(land, rules, deeds), plain_facts(land, rules, after)
    lines = [{number: box[number] for box in facts["boxes"] for number in box} for facts in (one, other)]
    return (
        unlike(one["homes"], other["homes"]), unlike(one["verdicts"], other["verdicts"]), unlike(*lines),
        unlike(one["sheets"], other["sheets"]), unlike(one["outcome"][0], other["outcome"][0]),
        one["outcome"][1] != other["outcome"][1],
    )
