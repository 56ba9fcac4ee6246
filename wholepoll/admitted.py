"""Admitted: which envelopes count, by a roll, rules and the struck numbers."""

from wholepoll.envelopes import standing_envelopes
from wholepoll.errors import NoEnvelope
from wholepoll.sheets import sheet_of
from wholepoll.stretches import sizes
from wholepoll.wholes import is_whole


def verdicts(roll, rules, envelopes, struck):
    """The dict from the numbers of the standing envelopes, rising, to their words."""
    homes = roll.homes(rules[0], rules[1])
    done = {}
    words = {}
    for envelope in standing_envelopes(envelopes):
        voter = envelope[1]
        word = _fault(envelope, rules, struck, homes.get(voter))
        if word is None:
            word = "again" if voter in done else "counts"
            done[voter] = True
        words[envelope[0]] = word
    return {number: words[number] for number in sorted(words)}


def verdict(roll, rules, envelopes, struck, number):
    """The word of the standing envelope with a number."""
    words = verdicts(roll, rules, envelopes, struck)
    if not is_whole(number) or number not in words:
        raise NoEnvelope("no standing envelope has that number")
    return words[number]


def counted(roll, rules, envelopes, struck):
    """The envelopes that count, by number."""
    words = verdicts(roll, rules, envelopes, struck)
    counting = [one for one in standing_envelopes(envelopes) if words[one[0]] == "counts"]
    # Of each number one stands at most, so tuples are sorted by their numbers alone.
    return sorted(counting)


def mailed(roll, rules, envelopes, struck):
    """By area of the roll, the sheet of the slips of the envelopes that count."""
    counting = counted(roll, rules, envelopes, struck)
    return [sheet_of([(one[4], 1) for one in counting if one[2] == area]) for area in range(roll.areas)]


def heard(roll, rules, envelopes, struck):
    """By area a tuple: how many may vote there, and how many envelopes count there."""
    areas = [one[2] for one in counted(roll, rules, envelopes, struck)]
    may_vote = sizes(roll, rules[0], rules[1])
    return [(may_vote[area], areas.count(area)) for area in range(roll.areas)]


def struck_turns(roll, rules, envelopes, struck, number):
    """The dict from the numbers, rising, whose words would be others if one more were struck, to these."""
    before = verdicts(roll, rules, envelopes, struck)
    after = verdicts(roll, rules, envelopes, list(struck) + [number])
    return {one: after[one] for one in after if after[one] != before[one]}


def _fault(envelope, rules, struck, home):
    """The word of what stands against an envelope by itself; None where nothing does."""
    if envelope[0] in struck:
        return "struck"
    if envelope[3] < rules[2]:
        return "early"
    if envelope[3] > rules[3]:
        return "late"
    if home is None:
        return "stranger"
    if envelope[2] != home:
        return "elsewhere"
    return None
