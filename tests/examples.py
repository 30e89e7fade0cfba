"""Readers and machines that several tests use."""


def table(many, product):
    """The rows of mul for so many values, from a function of two values."""
    return tuple(tuple(product(x, y) for y in range(many)) for x in range(many))


def counting(count, many):
    """The reader that adds letters up, the letter a as a, and forgets multiples of `many`."""
    letters = tuple(letter % many for letter in range(count))
    return (0, letters, table(many, lambda x, y: (x + y) % many), ())


def keeping_first(many):
    """The rows of mul in which the first value counts that is not 0."""
    return table(many, lambda x, y: x or y)


def keeping_last(many):
    """The rows of mul in which the last value counts that is not 0."""
    return table(many, lambda x, y: y or x)


def changed(row, at, member):
    """The tuple with another member at one index."""
    return row[:at] + (member,) + row[at + 1:]


def changed_row(mul, x, y, member):
    """The rows of mul with another member at one place."""
    return changed(mul, x, changed(mul[x], y, member))
