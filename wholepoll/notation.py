"""Notation: slips, lines, tellings, envelopes, deeds and houses as texts; hands have words here."""

from wholepoll.sets import members


def show_slip(slip, words):
    """The text of a slip: its tiers parted by `>`, the words of one by `=`; an empty one is `-`."""
    if len(slip) == 0:
        return "-"
    return ">".join(["=".join([words[hand] for hand in members(tier)]) for tier in slip])


def show_line(line, words):
    """The text of a line."""
    slip, number = line
    return f"{number}:{show_slip(slip, words)}"


def show_telling(telling):
    """The text of a telling."""
    number, day, voter, word, area = telling
    text = f"roll {number} {day} {voter} {word}"
    return text if area is None else f"{text} {area}"


def show_envelope(envelope, words):
    """The text of an envelope."""
    number, voter, area, day, slip = envelope
    return f"mail {number} {voter} {area} {day} {show_slip(slip, words)}"


def show_deed(deed, words):
    """The text of a deed: its number, a blank, and what it says."""
    return f"{deed[1]} {_said_by(deed, words)}"


def show_deeds(deeds, words):
    """A line for each deed, a line feed behind each."""
    return _lines_of([show_deed(deed, words) for deed in deeds])


def show_house(house, words):
    """The hands that have seats in a house, with their seats."""
    return _seats_of(house.in_all(), words)


def show_outcome(house, words):
    """A line for each area and one for the evened seats, a line feed behind each."""
    by_area, evened = house.outcome()
    return _lines_of([_seats_of(seats, words) for seats in by_area + [evened]])


def _said_by(deed, words):
    if deed[0] == "roll":
        return show_telling(deed[2])
    if deed[0] == "mail":
        return show_envelope(deed[2], words)
    said = [deed[0], str(deed[2])]
    if deed[0] in ("bundle", "recount"):
        said.extend([show_line(line, words) for line in deed[3]])
    return " ".join(said)


def _lines_of(texts):
    return "".join([f"{text}\n" for text in texts])


def _seats_of(seats, words):
    shown = [f"{words[hand]}:{many}" for hand, many in enumerate(seats) if many > 0]
    return " ".join(shown) if shown else "nobody"
