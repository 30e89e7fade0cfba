"""The points of the document again, word by word and as slow as they stand there, to compare with."""

import itertools

from examples import table


def subsets(places):
    places = list(places)
    return [chosen for size in range(len(places) + 1) for chosen in itertools.combinations(places, size)]


# Points 10 to 13.

def listed_values(reader, most):
    empty, letters, mul, _ = reader
    found = [empty]
    for letter in letters:
        if letter not in found:
            found.append(letter)
    if len(found) > most:
        return None
    while True:
        begun = list(found)
        for x in begun:
            for y in begun:
                if mul[x][y] not in found:
                    found.append(mul[x][y])
        if len(found) > most:
            return None
        if found == begun:
            return found


def numbered_reader(reader):
    empty, letters, mul, accepted = reader
    found = listed_values(reader, len(mul))
    return (
        found.index(empty),
        tuple(found.index(x) for x in letters),
        table(len(found), lambda x, y: found.index(mul[found[x]][found[y]])),
        tuple(x for x in range(len(found)) if found[x] in accepted),
    )


def told_apart(reader):
    """The pairs of values of a numbered reader that are told apart."""
    _, _, mul, accepted = reader
    values = range(len(mul))
    pairs = {(x, y) for x in values for y in values if (x in accepted) != (y in accepted)}
    while True:
        more = {
            (x, y) for x in values for y in values
            if any((mul[z][x], mul[z][y]) in pairs or (mul[x][z], mul[y][z]) in pairs for z in values)
        }
        if more <= pairs:
            return pairs
        pairs |= more


def least_reader(reader):
    reader = numbered_reader(reader)
    empty, letters, mul, accepted = reader
    apart = told_apart(reader)
    leader = [min(y for y in range(len(mul)) if (x, y) not in apart) for x in range(len(mul))]
    rows = tuple(tuple(leader[x] for x in row) for row in mul)
    return numbered_reader((leader[empty], tuple(leader[x] for x in letters), rows, accepted))


def reader_of_any_values(empty, letters, product, accepting):
    """The numbered reader of values of any kind; None if there are more than 300."""
    position = {}
    for worth in [empty, *letters]:
        position.setdefault(worth, len(position))
    begun = []
    while len(position) > len(begun):
        begun = list(position)
        for x in begun:
            for y in begun:
                position.setdefault(product(x, y), len(position))
            if len(position) > 300:
                return None
    found = list(position)
    mul = table(len(found), lambda x, y: position[product(found[x], found[y])])
    accepted = tuple(x for x in range(len(found)) if accepting(found[x]))
    return (0, tuple(position[letter] for letter in letters), mul, accepted)


# Points 15 to 17.

def place_says(sentence, at, row, sets, place):
    name, *members = sentence[at]
    if name == "set":
        return members[0] < len(sets) and place in sets[members[0]]
    if name == "letter":
        return row[place] == members[0]
    parts = [place_says(sentence, part, row, sets, place) for part in members]
    return {"not": not parts[0], "and": all(parts)}[name]


def line_says(sentence, at, row, sets):
    name, *members = sentence[at]
    places = range(len(row))

    def tells(part, place):
        return place_says(sentence, part, row, sets, place)

    if name == "all":
        return all(tells(members[0], place) for place in places)
    if name == "next":
        return all(tells(members[1], place + 1) for place in places[:-1] if tells(members[0], place))
    if name == "first":
        return len(row) == 0 or tells(members[0], 0)
    if name == "last":
        return len(row) == 0 or tells(members[0], len(row) - 1)
    if name == "nothing":
        return len(row) == 0
    if name == "one":
        return members[0] < len(sets) and len([place for place in places if place in sets[members[0]]]) == 1
    if name == "there":
        return any(line_says(sentence, members[0], row, sets + [list(chosen)]) for chosen in subsets(places))
    parts = [line_says(sentence, part, row, sets) for part in members]
    return {"denied": not parts[0], "both": all(parts)}[name]


def sentence_says(sentence, row, sets):
    return line_says(sentence, len(sentence) - 1, row, sets)
