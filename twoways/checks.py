"""Checks of single members and of tuples that several modules need."""


def is_within(thing, low, high):
    """Return True if the thing is an integer from low to high."""
    # Python counts True and False as integers, the document does not.
    return isinstance(thing, int) and not isinstance(thing, bool) and low <= thing <= high


def all_within(things, low, high):
    """Return True if each of the things is an integer from low to high."""
    for thing in things:
        if not is_within(thing, low, high):
            return False
    return True


def is_ascending(things):
    """Return True if each of the things is greater than the one before it."""
    for first, second in zip(things, things[1:]):
        if not first < second:
            return False
    return True
