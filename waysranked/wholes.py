"""Whole numbers among things of whatever kind."""


def is_whole(thing):
    """Tell whether a thing is a whole number."""
    # Python counts True and False among the ints, the document does not.
    return isinstance(thing, int) and not isinstance(thing, bool)


def is_within(thing, low, high):
    """Tell whether a thing is a whole number from low to high."""
    return is_whole(thing) and low <= thing <= high
