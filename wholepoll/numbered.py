"""Numbered things, which stand or fall by their numbers.

Where a thing has its number is told by `at`, the number's index in it.
"""


def unclashed(things, at):
    """The things whose number no unlike thing has, each once."""
    firsts = _firsts(things, at)
    fallen = clashing_numbers(things, at)
    return [firsts[number] for number in firsts if number not in fallen]


def clashing_numbers(things, at):
    """The numbers, rising, that unlike things have."""
    firsts = _firsts(things, at)
    return sorted({thing[at] for thing in things if thing != firsts[thing[at]]})


def _firsts(things, at):
    firsts = {}
    for thing in things:
        firsts.setdefault(thing[at], thing)
    return firsts
