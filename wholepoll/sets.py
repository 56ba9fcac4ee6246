"""Masks: sets of hands as the bits of a whole number."""


def all_of(hands):
    """The mask of the first so many hands."""
    return (1 << hands) - 1


def holds(mask, hand):
    """Whether a hand is in a mask."""
    return (mask >> hand) & 1 == 1


def with_one(mask, hand):
    """The mask with that hand."""
    return mask | (1 << hand)


def without(mask, hand):
    """The mask without that hand."""
    return mask & ~(1 << hand)


def size(mask):
    """How many hands are in a mask."""
    return len(members(mask))


def members(mask):
    """The hands of a mask, rising."""
    return [hand for hand in range(mask.bit_length()) if holds(mask, hand)]


def is_within(mask, other):
    """Whether all hands of a mask are in another one."""
    return mask & other == mask


def innermost(masks):
    """Those of some unlike masks, in their order, that have no other one within them."""
    return [mask for mask in masks if not any([is_within(other, mask) and other != mask for other in masks])]


def outermost(masks):
    """Those of some unlike masks, in their order, that lie within no other one."""
    return [mask for mask in masks if not any([is_within(mask, other) and other != mask for other in masks])]
