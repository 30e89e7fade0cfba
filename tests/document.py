"""The points of the document again, word by word and as slow as they stand there, to compare with."""

import itertools

from examples import table


def subsets(places):
    places = list(places)
    return [chosen for size in range(len(places) + 1) for chosen in itertools.combinations(places, size)]


# Points 10 to 13.

def listed_values(reader, most):
    empty, letters, mul, _ = reader
    found = [empty]
    for letter in letters:
        if letter not in found:
            found.append(letter)
    if len(found) > most:
        return None
    while True:
        begun = list(found)
        for x in begun:
            for y in begun:
                if mul[x][y] not in found:
                    found.append(mul[x][y])
        if len(found) > most:
            return None
        if found == begun:
            return found


def numbered_reader(reader):
    empty, letters, mul, accepted = reader
    found = listed_values(reader, len(mul))
    return (
        found.index(empty),
        tuple(found.index(x) for x in letters),
        table(len(found), lambda x, y: found.index(mul[found[x]][found[y]])),
        tuple(x for x in range(len(found)) if found[x] in accepted),
    )


def told_apart(reader):
    """The pairs of values of a numbered reader that are told apart."""
    _, _, mul, accepted = reader
    values = range(len(mul))
    pairs = {(x, y) for x in values for y in values if (x in accepted) != (y in accepted)}
    while True:
        more = {
            (x, y) for x in values for y in values
            if any((mul[z][x], mul[z][y]) in pairs or (mul[x][z], mul[y][z]) in pairs for z in values)
        }
        if more <= pairs:
            return pairs
        pairs |= more


def least_reader(reader):
    reader = numbered_reader(reader)
    empty, letters, mul, accepted = reader
    apart = told_apart(reader)
    leader = [min(y for y in range(len(mul)) if (x, y) not in apart) for x in range(len(mul))]
    rows = tuple(tuple(leader[x] for x in row) for row in mul)
    return numbered_reader((leader[empty], tuple(leader[x] for x in letters), rows, accepted))


def reader_of_any_values(empty, letters, product, accepting):
    """The numbered reader of values of any kind; None if there are more than 300."""
    position = {}
    for worth in [empty, *letters]:
        position.setdefault(worth, len(position))
    begun = []
    while len(position) > len(begun):
        begun = list(position)
        for x in begun:
            for y in begun:
                position.setdefault(product(x, y), len(position))
            if len(position) > 300:
                return None
    found = list(position)
    mul = table(len(found), lambda x, y: position[product(found[x], found[y])])
    accepted = tuple(x for x in range(len(found)) if accepting(found[x]))
    return (0, tuple(position[letter] for letter in letters), mul, accepted)


# Points 15 to 17.

def place_says(sentence, at, row, sets, place):
    name, *members = sentence[at]
    if name == "set":
        return members[0] < len(sets) and place in sets[members[0]]
    if name == "letter":
        return row[place] == members[0]
    parts = [place_says(sentence, part, row, sets, place) for part in members]
    return {"not": not parts[0], "and": all(parts)}[name]


def line_says(sentence, at, row, sets):
    name, *members = sentence[at]
    places = range(len(row))

    def tells(part, place):
        return place_says(sentence, part, row, sets, place)

    if name == "all":
        return all(tells(members[0], place) for place in places)
    if name == "next":
        return all(tells(members[1], place + 1) for place in places[:-1] if tells(members[0], place))
    if name == "first":
        return len(row) == 0 or tells(members[0], 0)
    if name == "last":
        return len(row) == 0 or tells(members[0], len(row) - 1)
    if name == "nothing":
        return len(row) == 0
    if name == "one":
        return members[0] < len(sets) and len([place for place in places if place in sets[members[0]]]) == 1
    if name == "there":
        return any(line_says(sentence, members[0], row, sets + [list(chosen)]) for chosen in subsets(places))
    parts = [line_says(sentence, part, row, sets) for part in members]
    return {"denied": not parts[0], "both": all(parts)}[name]


def sentence_says(sentence, row, sets):
    return line_says(sentence, len(sentence) - 1, row, sets)


# Point 21.

def line_reader(count, sentence, at, sets):
    """The least reader of a line about the row."""
    wide = wide_line_reader(count, sentence, at, sets)
    return None if wide is None else least_reader(wide)


def wide_line_reader(count, sentence, at, sets):
    """The reader of a line about the row before it is made least; None if it has too many values."""
    name, *members = sentence[at]
    marked_letters = [(letter, code) for letter in range(count) for code in range(2 ** sets)]

    def truths(part):
        return [
            place_says(sentence, part, [letter], [[0] if code // 2 ** i % 2 else [] for i in range(sets)], 0)
            for letter, code in marked_letters
        ]

    def from_places():
        first = truths(members[0])
        if name == "all":
            return True, first, lambda x, y: x and y, lambda x: x
        if name == "first":
            return "none", first, lambda x, y: x if x != "none" else y, lambda x: x in ("none", True)
        if name == "last":
            return "none", first, lambda x, y: y if y != "none" else x, lambda x: x in ("none", True)
        pairs = list(zip(truths(members[1]), first))
        return "none", pairs, next_to, lambda x: x != "broken"

    def next_to(x, y):
        if "none" in (x, y):
            return x if y == "none" else y
        if "broken" in (x, y) or (x[1] and not y[0]):
            return "broken"
        return (x[0], y[1])

    if name in ("all", "first", "last", "next"):
        return reader_of_any_values(*from_places())
    if name == "nothing":
        return reader_of_any_values(True, [False] * len(marked_letters), lambda x, y: x and y, lambda x: x)
    if name == "one":
        counts = [code // 2 ** members[0] % 2 if members[0] < sets else 0 for _, code in marked_letters]
        return reader_of_any_values(0, counts, lambda x, y: min(2, x + y), lambda x: x == 1)
    inner = [line_reader(count, sentence, part, sets + (name == "there")) for part in members]
    if None in inner:
        return None
    if name == "denied":
        empty, letters, mul, accepted = inner[0]
        return (empty, letters, mul, tuple(x for x in range(len(mul)) if x not in accepted))
    if name == "both":
        first, second = inner
        return reader_of_any_values(
            (first[0], second[0]),
            list(zip(first[1], second[1])),
            lambda x, y: (first[2][x[0]][y[0]], second[2][x[1]][y[1]]),
            lambda x: x[0] in first[3] and x[1] in second[3],
        )
    empty, letters, mul, accepted = inner[0]
    with_one_more = {}
    for number, (letter, code) in enumerate(itertools.product(range(count), range(2 ** (sets + 1)))):
        with_one_more[letter, code] = letters[number]
    return reader_of_any_values(
        frozenset([empty]),
        [frozenset([with_one_more[letter, code], with_one_more[letter, code + 2 ** sets]])
         for letter, code in marked_letters],
        lambda x, y: frozenset(mul[a][b] for a in x for b in y),
        lambda x: any(a in accepted for a in x),
    )


# Point 23. A part is a tuple of a name and parts or integers.

def laid(part):
    """The lines of a part: those of each part in it, and then its own."""
    lines = []

    def lay(part):
        numbers = [lay(inner) if isinstance(inner, tuple) else inner for inner in part[1:]]
        lines.append((part[0], *numbers))
        return len(lines) - 1

    lay(part)
    return tuple(lines)


YES = ("not", ("and", ("set", 0), ("not", ("set", 0))))


def every(parts):
    return ("and", parts[0], every(parts[1:])) if parts else YES


def some(parts):
    return ("not", ("and", ("not", parts[0]), ("not", some(parts[1:])))) if parts else ("not", YES)


def implied(condition, consequence):
    return ("not", ("and", condition, ("not", consequence)))


def walk_part(count, sets, reader):
    empty, letters, mul, accepted = reader
    values = range(len(mul))
    codes = 2 ** sets

    def is_marked(letter, code):
        marks = [("set", i) if code // 2 ** i % 2 else ("not", ("set", i)) for i in range(sets)]
        return ("and", ("letter", letter), every(marks))

    def behind(u):
        return every([
            implied(is_marked(letter, code), ("set", sets + mul[u][letters[letter * codes + code]]))
            for letter in range(count) for code in range(codes)
        ])

    def apart(v, w):
        return YES if v == w else implied(("set", sets + v), ("not", ("set", sets + w)))

    parts = [
        ("all", every([apart(v, w) for v in values for w in values])),
        ("first", behind(empty)),
        ("last", some([("set", sets + v) for v in accepted])),
    ]
    parts += [("next", ("set", sets + u), behind(u)) for u in values]
    walk = ("all", YES)
    for part in reversed(parts):
        walk = ("both", part, walk)
    return walk


def sentence_part(count, sets, reader):
    inside = walk_part(count, sets, reader)
    for _ in reader[2]:
        inside = ("there", inside)
    if reader[0] in reader[3]:
        return ("denied", ("both", ("denied", ("nothing",)), ("denied", inside)))
    return ("both", ("denied", ("nothing",)), inside)


# Points 24 and 25.

def run_by_steps(machine, row):
    _, states, (empty, letters, mul, _), _, _, steps = machine

    def worth(part):
        reached = empty
        for letter in part:
            reached = mul[reached][letters[letter]]
        return reached

    place, state, written, origins = 0, 0, [], []
    # More steps than there are pairs of a place and a state: the run goes round for ever.
    for _ in range(len(row) * states + 1):
        if not 0 <= place < len(row):
            return None
        sight = (state, worth(row[:place]), row[place], worth(row[place + 1:]))
        found = [step for step in steps if step[:4] == sight]
        if not found:
            return None
        move, after, piece = found[0][4:]
        written += piece
        origins += [(place, state, index) for index in range(len(piece))]
        if move == "stop":
            return (written, origins)
        place, state = place + {"left": -1, "right": 1}[move], after
    return None
