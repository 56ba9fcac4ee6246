"""Unlike: where two dicts, or two lists of as many things, differ."""


def unlike_keys(one, other):
    """The keys, rising, that have another thing in one dict than in the other; in neither is a thing as None."""
    return [key for key in sorted(set(list(one) + list(other))) if one.get(key) != other.get(key)]


def unlike_places(one, other):
    """The places, rising, at which two lists have unlike things."""
    return [place for place, (thing, beside) in enumerate(zip(one, other)) if thing != beside]
