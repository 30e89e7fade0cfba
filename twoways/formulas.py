"""Readers that say something together, made least at once so that they have few values."""

from twoways.moves import some_place
from twoways.values import denied, least_from

# A reader may have more values than others before it is made least, since only the least one is kept.
MOST_WIDE_VALUES = 2000


def both(first, second):
    """Return the least reader that accepts what both readers accept. Raises TooManyValues."""
    first_empty, first_letters, first_mul, first_accepted = first
    second_empty, second_letters, second_mul, second_accepted = second
    first_dead = _dead_value(first)
    second_dead = _dead_value(second)

    def pair(x, y):
        # All pairs from which nothing leads to an accepted one are one value.
        return None if x == first_dead or y == second_dead else (x, y)

    def product(x, y):
        if x is None or y is None:
            return None
        return pair(first_mul[x[0]][y[0]], second_mul[x[1]][y[1]])

    def accepting(x):
        return x is not None and x[0] in first_accepted and x[1] in second_accepted

    letters = [pair(x, y) for x, y in zip(first_letters, second_letters)]
    return least_from(pair(first_empty, second_empty), letters, product, accepting, MOST_WIDE_VALUES)


def any_of(count, readers):
    """Return the least reader of so many letters that accepts what any of the readers accepts. Raises TooManyValues.

    The readers are least ones.
    """
    # What none of them accepts; the denied reader of a least one is a least one, too.
    found = denied(_nothing(count))
    for reader in readers:
        found = both(found, denied(reader))
    return denied(found)


def some_of(reader, sets):
    """Return the least reader that accepts if the given one does with some place alone in the last of its sets.

    Raises TooManyValues.
    """
    return some_place(reader, sets, MOST_WIDE_VALUES)


def _nothing(count):
    """Return the least reader of so many letters that accepts nothing."""
    return (0, (0,) * count, ((0,),), ())


def _dead_value(reader):
    """Return the value that is not accepted and that no other value joined with it changes, or None."""
    _, _, mul, accepted = reader
    for x, row in enumerate(mul):
        if x not in accepted and all([y == x for y in row]) and all([other[x] == x for other in mul]):
            return x
    return None
