"""Readers of tapes with other sets, or with one set less, and whether a place is to the left of another one."""

from twoways.marked import width
from twoways.readers import MOST_VALUES
from twoways.values import least, least_from

# What a stretch has of the two places of which one is to be to the left of the other one.
NEITHER = 0
FIRST = 1
SECOND = 2
IN_ORDER = 3
WRONG = 4


def moved(reader, sets, numbers, count):
    """Return the least reader of tapes with `count` sets that reads its set numbers[i] as the set i."""
    empty, letters, mul, accepted = reader
    codes = [_code_of(numbers, code) for code in range(width(count))]
    values = [
        letters[first + code] for first in range(0, len(letters), width(sets)) for code in codes
    ]
    return least((empty, tuple(values), mul, accepted))


def some(reader, sets):
    """Return the least reader that accepts if the given one does with some place alone in the last set.

    Raises TooManyValues.
    """
    return some_place(reader, sets, MOST_VALUES)


def some_place(reader, sets, wide):
    """Return what `some` returns, where before it is made least it may have so many values."""
    empty, letters, mul, accepted = reader

    def product(x, y):
        without_place = mul[x[0]][y[0]]
        return (without_place, tuple(sorted({mul[x[0]][b] for b in y[1]} | {mul[a][y[0]] for a in x[1]})))

    def accepting(x):
        return any([a in accepted for a in x[1]])

    codes = width(sets - 1)
    pairs = []
    for first in range(0, len(letters), 2 * codes):
        for outside in range(first, first + codes):
            pairs.append((letters[outside], (letters[outside + codes],)))
    return least_from((empty, ()), pairs, product, accepting, wide)


def is_left(count, first, second, sets):
    """Return the least reader that accepts if the only place in one set is to the left of the only one in another."""
    values = []
    for _ in range(count):
        for code in range(width(sets)):
            has_first = code >> first & 1
            has_second = code >> second & 1
            # A place in both sets is not to the left of itself.
            values.append(WRONG if has_first + has_second == 2 else has_first * FIRST + has_second * SECOND)
    return least_from(NEITHER, values, _in_order, _is_in_order)


def _code_of(numbers, code):
    """Return the code with the set i if the given one has the set numbers[i]."""
    found = 0
    for at, number in enumerate(numbers):
        found |= (code >> number & 1) << at
    return found


def _in_order(x, y):
    """Return what two stretches have of the two places, one after the other."""
    if x == NEITHER:
        return y
    if y == NEITHER:
        return x
    return IN_ORDER if (x, y) == (FIRST, SECOND) else WRONG


def _is_in_order(x):
    """Return True if a stretch has both places, in order."""
    return x == IN_ORDER
