"""Words and tapes that are written together with sets of their places (point 20)."""


def width(sets):
    """Return how many marked letters there are for each letter, with so many sets."""
    return 1 << sets


def marked(row, sets):
    """Return the marked word or tape, a list."""
    codes = [0] * len(row)
    for number, places in enumerate(sets):
        for place in places:
            codes[place] |= 1 << number
    return [letter * width(len(sets)) + code for letter, code in zip(row, codes)]
