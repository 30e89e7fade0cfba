"""Sentences, rows and sets that several tests use."""

import itertools

from document import subsets
from examples import some_numbers

# Names with the kinds of what stands behind them.
PLACE_LINES = {"set": ("set",), "letter": ("letter",), "not": ("place",), "and": ("place", "place")}
ROW_LINES = {
    "all": ("place",), "next": ("place", "place"), "first": ("place",), "last": ("place",), "nothing": (),
    "one": ("set",), "denied": ("row",), "both": ("row", "row"), "there": ("row",),
}
KINDS = {**PLACE_LINES, **ROW_LINES}


def some_sentences(count, many, longest):
    """Valid sentences without a plain pattern."""
    numbers = iter(some_numbers(7, many * longest * 4, 1 << 20))
    found = []
    while len(found) < many:
        lines = []
        for _ in range(2 + next(numbers) % (longest - 1)):
            places = [at for at, line in enumerate(lines) if line[0] in PLACE_LINES]
            rows = [at for at, line in enumerate(lines) if line[0] in ROW_LINES]
            choices = {"set": range(3), "letter": range(count), "place": places, "row": rows}
            names = [name for name, kinds in KINDS.items() if all(choices[kind] for kind in kinds)]
            name = names[next(numbers) % len(names)]
            members = [choices[kind][next(numbers) % len(choices[kind])] for kind in KINDS[name]]
            lines.append((name, *members))
        if lines[-1][0] not in ROW_LINES:
            lines.append(("nothing",) if not places else ("last", places[-1]))
        found.append(tuple(lines))
    return found


def rows_of(count, longest):
    for length in range(longest + 1):
        for row in itertools.product(range(count), repeat=length):
            yield list(row)


def choices_of_sets(many, length):
    for chosen in itertools.product([list(places) for places in subsets(range(length))], repeat=many):
        yield list(chosen)


# Lines about one place: each kind, and some of them in one another.
PLACE_PARTS = (
    (("set", 0),), (("letter", 1),), (("set", 1),), (("set", 0), ("not", 0)), (("letter", 0), ("not", 0)),
    (("set", 0), ("letter", 1), ("and", 0, 1)), (("set", 0), ("set", 1), ("not", 1), ("and", 0, 2)),
    (("letter", 0), ("and", 0, 0)), (("set", 3),), (("set", 0), ("not", 0), ("and", 0, 1), ("not", 2)),
)


def with_each_row_line(part):
    """Sentences of each kind of line about a row that reads this part about one place, also inside others."""
    last = len(part) - 1
    end = len(part)
    bases = [part + ((name, last),) for name in ("all", "first", "last")]
    bases += [part + (("next", last, last),), part + (("next", 0, last),), part + (("next", last, 0),)]
    bases += [part + (("one", 0),), part + (("nothing",),), part + (("one", 1),)]
    for base in bases:
        yield base
        yield base + (("denied", end),)
        yield base + (("there", end),)
        yield base + (("one", 0), ("both", end, end + 1), ("there", end + 2))
        yield base + (("denied", end), ("there", end + 1), ("both", end, end + 2))


def there_are(parts):
    """The sentence that says of each of some lines about one place that it holds somewhere.

    `parts` are lines about one place, without lines in them, and pairs of such: one place, then the next one.
    """
    lines = []
    last = None
    for part in parts:
        if isinstance(part[0], tuple):
            first, second = part
            lines += [first, second, ("not", len(lines) + 1), ("next", len(lines), len(lines) + 2)]
        else:
            lines += [part, ("not", len(lines)), ("all", len(lines) + 1)]
        lines.append(("denied", len(lines) - 1))
        if last is not None:
            lines.append(("both", last, len(lines) - 1))
        last = len(lines) - 1
    return tuple(lines)


def colouring(forbidden):
    """The sentence that says that 5 letters can be put in a set or not, such that no forbidden pair stands together.

    In a pair, twice a letter stands for the letter in the set, and one more for the letter outside.
    """
    lines = [("set", 0), ("not", 0)] + [("letter", letter) for letter in range(5)]
    lines += [("and", inside, letter) for letter in range(2, 7) for inside in (0, 1)]
    negated = {}
    last = None
    for first, second in forbidden:
        if second not in negated:
            negated[second] = len(lines)
            lines.append(("not", 7 + second))
        lines.append(("next", 7 + first, negated[second]))
        if last is not None:
            lines.append(("both", last, len(lines) - 1))
        last = len(lines) - 1
    return tuple(lines) + (("there", last),)


# Before they are made least, the readers of the two have 289 values and more than 300, and those below 102 and 92.
MANY_COLOURINGS = colouring((
    (7, 0), (8, 6), (5, 8), (9, 9), (6, 3), (4, 6), (5, 9), (9, 0), (3, 3), (2, 8), (4, 8), (3, 1), (3, 9), (5, 2),
    (6, 5), (1, 4), (4, 5),
))
TOO_MANY_COLOURINGS = colouring((
    (3, 7), (4, 3), (2, 6), (6, 2), (5, 9), (0, 0), (3, 6), (0, 2), (9, 0), (9, 2), (7, 4), (1, 6), (5, 7), (2, 1),
    (7, 7), (8, 5), (4, 1),
))
