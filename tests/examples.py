"""Readers and machines that several tests use."""

import itertools


def table(many, product):
    """The rows of mul for so many values, from a function of two values."""
    return tuple(tuple(product(x, y) for y in range(many)) for x in range(many))


def counting(count, many):
    """The reader that adds letters up, the letter a as a, and forgets multiples of `many`."""
    letters = tuple(letter % many for letter in range(count))
    return (0, letters, table(many, lambda x, y: (x + y) % many), ())


def keeping_first(many):
    """The rows of mul in which the first value counts that is not 0."""
    return table(many, lambda x, y: x or y)


def keeping_last(many):
    """The rows of mul in which the last value counts that is not 0."""
    return table(many, lambda x, y: y or x)


def changed(row, at, member):
    """The tuple with another member at one index."""
    return row[:at] + (member,) + row[at + 1:]


def changed_row(mul, x, y, member):
    """The rows of mul with another member at one place."""
    return changed(mul, x, changed(mul[x], y, member))


def composing(points, letters, accepted, turned=0):
    """The reader whose values are all maps of so many points into themselves, one after the other.

    `letters` and `accepted` are numbers of maps; the maps are numbered from another one on if `turned` is not 0.
    """
    maps = list(itertools.product(range(points), repeat=points))
    maps = maps[turned:] + maps[:turned]
    mul = table(len(maps), lambda x, y: maps.index(tuple(maps[y][at] for at in maps[x])))
    return (maps.index(tuple(range(points))), tuple(letters), mul, tuple(accepted))


def some_numbers(start, many, below):
    """So many numbers without a plain pattern, the same ones each time."""
    found = []
    for _ in range(many):
        start = (start * 1103515245 + 12345) & 0x7FFFFFFF
        found.append((start >> 8) % below)
    return found


def some_readers(count):
    """Readers of so many letters of many kinds."""
    found = [counting(count, many)[:3] + (accepted,) for many in (1, 2, 3, 6) for accepted in ((), (0,), (many - 1,))]
    for many in (2, 3, 4):
        for mul in (keeping_first(many), keeping_last(many), table(many, max)):
            letters = tuple(some_numbers(many, count, many))
            found += [(0, letters, mul, (1,)), (0, letters, mul, tuple(range(many)))]
    found.append((2, (1, 0, 2, 1)[:count] + (0,) * (count - 4), table(3, min), (0, 2)))
    for start in range(12):
        letters = some_numbers(start, count, 4)
        found.append(composing(2, letters, sorted(set(some_numbers(start + 99, 2, 4))), start % 4))
    for start in range(6):
        letters = some_numbers(start, count, 27)
        found.append(composing(3, letters, sorted(set(some_numbers(start + 99, 9, 27))), start * 5))
    return found
