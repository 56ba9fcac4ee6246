"""Papers with one thing otherwise, made of the kinds of things that are told."""

HUGE = 10 ** 60 - 1
WORDS = ("fall", "pass", "rise", "")


def is_fraction(thing):
    return isinstance(thing, tuple) and len(thing) == 2 and all(type(part) is int for part in thing)


def spoilt(thing):
    """Every such thing that has one thing otherwise; tuples stay as long as they are."""
    if thing is None:
        yield from ((0, 1), (1, 1), 0)
    elif isinstance(thing, str):
        yield from (word for word in WORDS if word != thing)
    elif isinstance(thing, int):
        yield from (other for other in (thing + 1, thing - 1, -thing, HUGE, -HUGE) if other != thing)
    elif isinstance(thing, tuple):
        if is_fraction(thing):
            yield from (None, (2 * thing[0], 2 * thing[1]), (-thing[0], -thing[1]), (thing[0], 0))
        for at, part in enumerate(thing):
            for other in spoilt(part):
                yield thing[:at] + (other,) + thing[at + 1:]
    else:
        yield from spoilt_list(thing)


def spoilt_list(thing):
    """Things of the list otherwise, left out, doubled, exchanged; and none at all."""
    for at, part in enumerate(thing):
        for other in spoilt(part):
            yield thing[:at] + [other] + thing[at + 1:]
        yield thing[:at] + thing[at + 1:]
        yield thing[:at] + [part] + thing[at:]
        if at > 0 and thing[at - 1] != part:
            yield thing[:at - 1] + [part, thing[at - 1]] + thing[at + 1:]
    if len(thing) > 1:
        yield []
        yield thing + thing
