"""Masks: sets of alternatives as whole numbers."""


def full_mask(alternative_count):
    """The mask of all alternatives."""
    return (1 << alternative_count) - 1


def is_member(mask, x):
    """Whether the alternative is in the set."""
    return mask >> x & 1 == 1


def members(mask):
    """The alternatives of the set, the lowest one first."""
    return [x for x in range(mask.bit_length()) if is_member(mask, x)]
