"""Seals: what shows an altered code of a bundle, and mends it."""

from wholepoll.errors import Torn


def seal_of(codes):
    """How many codes there are, their sum, and their sums by the place and its square."""
    added = 0
    by_place = 0
    by_square = 0
    for at, code in enumerate(codes):
        place = at + 1
        added = added + code
        by_place = by_place + code * place
        by_square = by_square + code * place * place
    return (len(codes), added, by_place, by_square)


def mended(codes, seal):
    """The codes as they were sealed, and the place of the one that was altered, 0 where none was."""
    found = seal_of(codes)
    if seal == found:
        return (list(codes), 0)
    lacks = seal[1] - found[1]
    if seal[0] != found[0] or lacks == 0:
        raise Torn("no one code makes the seal right")
    # One altered code lacks the same at its place in each sum; so the sums tell the place.
    place = (seal[2] - found[2]) // lacks
    if not 1 <= place <= len(codes):
        raise Torn("no one code makes the seal right")
    right = list(codes)
    right[place - 1] = right[place - 1] + lacks
    if seal_of(right) != seal:
        raise Torn("no one code makes the seal right")
    return (right, place)
