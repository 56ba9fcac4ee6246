"""Things of any kind, for the tests of what is asked of anything."""


class Odd:
    """A thing that can be neither compared, nor measured, nor be a key."""

    __hash__ = None

    def __eq__(self, other):
        raise AssertionError("compared")

    def __len__(self):
        raise AssertionError("measured")

    def __bool__(self):
        raise AssertionError("tested")


def no_wholes():
    """Things of many kinds, none of them a whole number, a text, a list or a tuple."""
    return [None, True, False, b"", b"a", {}, {0: 1}, set(), {1}, frozenset(), range(3), 0.5, Odd(), Odd, object(), len]


def no_words():
    return no_wholes() + [0, 1, -1, 10 ** 60, [], ["a"], (), ("a",)]


def anything_but_tuples():
    return no_wholes() + [0, 1, -1, 10 ** 60, "", "a", "comes", [], [1], [Odd()]]


def anything_but_lists():
    return no_wholes() + [0, 1, -1, 10 ** 60, "", "a", "12", (), (1,), (1, 2), (Odd(),)]


def anything_but_numbers():
    return no_wholes() + ["", "1", "a", [], [1], (), (1,), [[]], ((),)]
