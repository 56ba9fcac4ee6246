"""Readers: what has just a text, by the notation of this package."""

from wholepoll.deeds import is_deed
from wholepoll.envelopes import is_envelope
from wholepoll.errors import NoText
from wholepoll.notation import show_slip
from wholepoll.sets import with_one
from wholepoll.sheets import is_slip
from wholepoll.tellings import is_telling
from wholepoll.words import MOST

FIGURES = "0123456789"
MOST_FIGURES = 10


def read_number(text):
    """The whole number that has a text of one to ten figures."""
    if not 1 <= len(text) <= MOST_FIGURES:
        raise NoText("a number has one to ten figures")
    if not all([sign in FIGURES for sign in text]) or (text[0] == "0" and len(text) > 1):
        raise NoText("a number is written in figures without a needless nought ahead")
    return int(text)


def read_slip(text, words):
    """The slip that has a text."""
    if not isinstance(text, str):
        raise NoText("a slip is read of a text")
    if text == "-":
        return ()
    slip = tuple([_tier(part, words) for part in text.split(">")])
    # Of words twice, or not by the hands' numbers, another text is told.
    if not is_slip(slip, len(words)) or show_slip(slip, words) != text:
        raise NoText("that is no slip")
    return slip


def read_line(text, words):
    """The line that has a text."""
    parts = _parts(text, ":")
    if len(parts) != 2:
        raise NoText("a line is a number and a slip")
    number = read_number(parts[0])
    if not 1 <= number <= MOST:
        raise NoText("a line has from 1 to 10 ** 9 ballots")
    return (read_slip(parts[1], words), number)


def read_telling(text):
    """The telling that has a text."""
    parts = _parts(text, " ")
    if len(parts) not in (5, 6) or parts[0] != "roll":
        raise NoText("that is no telling")
    area = read_number(parts[5]) if len(parts) == 6 else None
    telling = (read_number(parts[1]), read_number(parts[2]), parts[3], parts[4], area)
    if not is_telling(telling):
        raise NoText("that is no telling")
    return telling


def read_envelope(text, words):
    """The envelope that has a text."""
    parts = _parts(text, " ")
    if len(parts) != 6 or parts[0] != "mail":
        raise NoText("that is no envelope")
    number, area, day = [read_number(parts[place]) for place in (1, 3, 4)]
    envelope = (number, parts[2], area, day, read_slip(parts[5], words))
    if not is_envelope(envelope, len(words)):
        raise NoText("that is no envelope")
    return envelope


def read_deed(text, words, areas):
    """The deed for so many areas that has a text."""
    parts = _parts(text, " ")
    if len(parts) < 3:
        raise NoText("that is no deed")
    head = (parts[1], read_number(parts[0]))
    deed = head + _said_in(parts[1:], words)
    if not is_deed(deed, areas, len(words)):
        raise NoText("that is no deed for this land")
    return deed


def read_deeds(text, words, areas):
    """The list of the deeds that have a text, each a line with its line feed."""
    lines = _parts(text, "\n")
    if lines[-1] != "":
        raise NoText("the last line has no line feed")
    return [read_deed(line, words, areas) for line in lines[:-1]]


def _parts(text, sign):
    if not isinstance(text, str):
        raise NoText("only texts are read")
    return text.split(sign)


def _tier(text, words):
    tier = 0
    for word in text.split("="):
        if word not in words:
            raise NoText("that is no hand's word")
        tier = with_one(tier, words.index(word))
    return tier


def _said_in(parts, words):
    """What stands in a deed behind its number, by the words of its text."""
    word = parts[0]
    if word == "roll":
        return (read_telling(" ".join(parts)),)
    if word == "mail":
        return (read_envelope(" ".join(parts), words),)
    number = read_number(parts[1])
    if word in ("bundle", "recount"):
        return (number, tuple([read_line(part, words) for part in parts[2:]]))
    if len(parts) != 2:
        raise NoText("that is no deed")
    return (number,)
