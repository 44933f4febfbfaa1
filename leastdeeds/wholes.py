"""Whole numbers: what counts as one."""


def is_between(thing, low, high):
    """Whether a thing is a whole number from low to high."""
    # Python counts True and False among its ints.
    if isinstance(thing, bool) or not isinstance(thing, int):
        return False
    return low <= thing <= high
