"""Readers: tables that give each word a value (points 8 and 9)."""

from twoways.checks import all_within, is_ascending, is_within

MOST_VALUES = 300


def fault(count, reader):
    """Return None if the reader fits so many letters, otherwise its first fault, a tuple."""
    # What is not a reader at all has no rows in which its values could be counted.
    if len(reader) != 4:
        return ("values",)
    found = _member_fault(count, reader)
    if found is None:
        found = _unit_fault(reader)
    if found is None:
        found = _order_fault(reader)
    return found


def value(reader, word):
    """Return the value of a word."""
    empty, letters, mul, _ = reader
    reached = empty
    for letter in word:
        reached = mul[reached][letters[letter]]
    return reached


def accepts(reader, word):
    """Return True if the reader accepts the word, otherwise False."""
    return value(reader, word) in reader[3]


def values_to_the_left(reader, row, left):
    """Return for each place of a row the value of the letters to its left, behind a left value."""
    _, letters, mul, _ = reader
    reached = left
    found = []
    for letter in row:
        found.append(reached)
        reached = mul[reached][letters[letter]]
    return found


def values_to_the_right(reader, row, right):
    """Return for each place of a row the value of the letters to its right, in front of a right value."""
    _, letters, mul, _ = reader
    reached = right
    found = []
    for letter in row[::-1]:
        found.append(reached)
        reached = mul[letters[letter]][reached]
    return found[::-1]


def _member_fault(count, reader):
    """Return the first fault of the members that can be seen without multiplying, or None."""
    empty, letters, mul, accepted = reader
    last = len(mul) - 1
    if not 1 <= len(mul) <= MOST_VALUES:
        return ("values",)
    if not is_within(empty, 0, last):
        return ("empty",)
    if len(letters) != count or not all_within(letters, 0, last):
        return ("letters",)
    for x, row in enumerate(mul):
        if len(row) != len(mul) or not all_within(row, 0, last):
            return ("mul", x)
    if not all_within(accepted, 0, last) or not is_ascending(accepted):
        return ("accepted",)
    return None


def _unit_fault(reader):
    """Return the first fault of the value of the empty word as a unit, or None."""
    empty, _, mul, _ = reader
    for x, row in enumerate(mul):
        if mul[empty][x] != x or row[empty] != x:
            return ("unit", x)
    return None


def _order_fault(reader):
    """Return the first three values whose grouping makes a difference, as a fault, or None."""
    # Lists, since whole rows are compared: 300 values have 27 million triples.
    rows = [list(row) for row in reader[2]]
    for x, row in enumerate(rows):
        for y, both in enumerate(row):
            left_first = rows[both]
            right_first = [row[after] for after in rows[y]]
            if left_first != right_first:
                return ("order", x, y, _first_difference(left_first, right_first))
    return None


def _first_difference(first, second):
    """Return the first index at which two lists differ that do differ."""
    at = 0
    while first[at] == second[at]:
        at += 1
    return at
