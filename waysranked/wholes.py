"""Whole numbers among things of whatever kind, and what rises."""

from waysranked.errors import NoMany


def is_whole(thing):
    """Tell whether a thing is a whole number."""
    # Python counts True and False among the ints, the document does not.
    return isinstance(thing, int) and not isinstance(thing, bool)


def is_within(thing, low, high):
    """Tell whether a thing is a whole number from low to high."""
    return is_whole(thing) and low <= thing <= high


def is_rising(things):
    """Tell of a list or tuple of things that compare whether each is greater than the one ahead."""
    return all([one < other for one, other in zip(things, things[1:])])


def check_many(thing, low, high):
    """Refuse what is no number of ways from low to high."""
    if not is_within(thing, low, high):
        raise NoMany("this is no number of ways that is let")
