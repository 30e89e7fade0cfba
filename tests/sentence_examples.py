"""Sentences, rows and sets that several tests use."""

import itertools

from document import subsets
from examples import some_numbers

# Names with the kinds of what stands behind them.
PLACE_LINES = {"set": ("set",), "letter": ("letter",), "not": ("place",), "and": ("place", "place")}
ROW_LINES = {
    "all": ("place",), "next": ("place", "place"), "first": ("place",), "last": ("place",), "nothing": (),
    "one": ("set",), "denied": ("row",), "both": ("row", "row"), "there": ("row",),
}
KINDS = {**PLACE_LINES, **ROW_LINES}


def some_sentences(count, many, longest):
    """Valid sentences without a plain pattern."""
    numbers = iter(some_numbers(7, many * longest * 4, 1 << 20))
    found = []
    while len(found) < many:
        lines = []
        for _ in range(2 + next(numbers) % (longest - 1)):
            places = [at for at, line in enumerate(lines) if line[0] in PLACE_LINES]
            rows = [at for at, line in enumerate(lines) if line[0] in ROW_LINES]
            choices = {"set": range(3), "letter": range(count), "place": places, "row": rows}
            names = [name for name, kinds in KINDS.items() if all(choices[kind] for kind in kinds)]
            name = names[next(numbers) % len(names)]
            members = [choices[kind][next(numbers) % len(choices[kind])] for kind in KINDS[name]]
            lines.append((name, *members))
        if lines[-1][0] not in ROW_LINES:
            lines.append(("nothing",) if not places else ("last", places[-1]))
        found.append(tuple(lines))
    return found


def rows_of(count, longest):
    for length in range(longest + 1):
        for row in itertools.product(range(count), repeat=length):
            yield list(row)


def choices_of_sets(many, length):
    for chosen in itertools.product([list(places) for places in subsets(range(length))], repeat=many):
        yield list(chosen)


# Lines about one place: each kind, and some of them in one another.
PLACE_PARTS = (
    (("set", 0),), (("letter", 1),), (("set", 1),), (("set", 0), ("not", 0)), (("letter", 0), ("not", 0)),
    (("set", 0), ("letter", 1), ("and", 0, 1)), (("set", 0), ("set", 1), ("not", 1), ("and", 0, 2)),
    (("letter", 0), ("and", 0, 0)), (("set", 3),), (("set", 0), ("not", 0), ("and", 0, 1), ("not", 2)),
)


def with_each_row_line(part):
    """Sentences of each kind of line about a row that reads this part about one place, also inside others."""
    last = len(part) - 1
    end = len(part)
    bases = [part + ((name, last),) for name in ("all", "first", "last")]
    bases += [part + (("next", last, last),), part + (("next", 0, last),), part + (("next", last, 0),)]
    bases += [part + (("one", 0),), part + (("nothing",),), part + (("one", 1),)]
    for base in bases:
        yield base
        yield base + (("denied", end),)
        yield base + (("there", end),)
        yield base + (("one", 0), ("both", end, end + 1), ("there", end + 2))
        yield base + (("denied", end), ("there", end + 1), ("both", end, end + 2))
