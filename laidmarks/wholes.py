"""Whole numbers within bounds, of which all other things are made."""


def is_whole_within(thing, low, high):
    """Whether a thing of whatever kind is a whole number from low to high."""
    # Python holds True and False for ints; here they are no whole numbers.
    return isinstance(thing, int) and not isinstance(thing, bool) and low <= thing <= high
