"""Whole numbers within bounds, of which all other things are made."""


def is_whole_within(thing, low, high):
    """Whether a thing of whatever kind is a whole number from low to high."""
    # Python holds True and False for ints; here they are no whole numbers.
    return isinstance(thing, int) and not isinstance(thing, bool) and low <= thing <= high


def are_rising_within(thing, low, high):
    """Whether a thing of whatever kind is a rising tuple of whole numbers from low to high."""
    if not isinstance(thing, tuple) or not all([is_whole_within(number, low, high) for number in thing]):
        return False
    return all([ahead < number for ahead, number in zip(thing, thing[1:])])
