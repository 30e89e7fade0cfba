"""The values of readers: found, numbered, joined and made fewer (points 10 to 13)."""

from twoways.errors import TooManyValues
from twoways.readers import MOST_VALUES

# For each kind of joining, how many of the two values must be accepted.
ACCEPTING = {"both": (2,), "either": (1, 2), "one": (1,)}


def values(reader, most):
    """Return the list of the values that words have, or None if there are more than `most`."""
    empty, letters, mul, _ = reader
    found = _distinct([empty] + list(letters))
    before = 0
    while len(found) <= most and before < len(found):
        products = _products(mul, found, before)
        before = len(found)
        found = _distinct(found + products)
    if len(found) > most:
        return None
    return found


def numbered(reader):
    """Return the numbered reader, whose values are the positions in the list of values."""
    _, letters, mul, accepted = reader
    found = values(reader, len(mul))
    position = {x: at for at, x in enumerate(found)}
    rows = [mul[x] for x in found]
    return (
        0,
        tuple([position[x] for x in letters]),
        tuple([tuple([position[row[y]] for y in found]) for row in rows]),
        tuple(sorted([position[x] for x in accepted if x in position])),
    )


def reader_from(empty, letters, product, accepting, most=MOST_VALUES):
    """Return the numbered reader of values of any kind.

    `empty` is the value of the empty word, `letters` a list with the value of each letter, `product` a function
    of two values, and `accepting` one that tells whether a value is accepted. It must make no difference in
    which order three values are multiplied. Raises TooManyValues if there are more than `most`.
    """
    found, behind, origins = _reached(empty, _distinct(letters), product, most)
    position = {x: at for at, x in enumerate(found)}
    accepted = [at for at, x in enumerate(found) if accepting(x)]
    letter_values = [position[x] for x in letters]
    return numbered((0, tuple(letter_values), _table(behind, origins), tuple(accepted)))


def least_from(empty, letters, product, accepting, wide=MOST_VALUES, most=MOST_VALUES):
    """Return the least reader of values of any kind, which are told as in `reader_from`.

    Raises TooManyValues if there are more than `wide`, or if the least reader has more than `most`.
    """
    kinds = _distinct(letters)
    found, behind, origins = _reached(empty, kinds, product, wide)
    accepted = [bool(accepting(x)) for x in found]
    leaders = _leaders(accepted, behind, origins)
    leader_of = {letter: leaders[after] for letter, after in zip(kinds, behind[0])}
    # Of several letters that are alike any one serves, since what they are multiplied to is alike, too.
    column = {leaders[after]: at for at, after in enumerate(behind[0])}
    return reader_from(
        leaders[0],
        [leader_of[letter] for letter in letters],
        lambda x, y: leaders[behind[x][column[y]]],
        lambda one: accepted[one],
        most,
    )


def denied(reader):
    """Return the reader that accepts the words that the given one does not accept."""
    empty, letters, mul, accepted = reader
    others = [x for x in range(len(mul)) if x not in accepted]
    return (empty, letters, mul, tuple(others))


def joint(kind, first, second):
    """Return the reader of the pairs of values of two readers. Raises TooManyValues."""
    first_empty, first_letters, first_mul, first_accepted = first
    second_empty, second_letters, second_mul, second_accepted = second

    def product(x, y):
        return (first_mul[x[0]][y[0]], second_mul[x[1]][y[1]])

    def accepting(pair):
        many = int(pair[0] in first_accepted) + int(pair[1] in second_accepted)
        return many in ACCEPTING[kind]

    pairs = list(zip(first_letters, second_letters))
    return reader_from((first_empty, second_empty), pairs, product, accepting)


def least(reader):
    """Return the least reader that accepts the same words."""
    empty, letters, mul, accepted = reader
    many = len(mul)
    return least_from(
        empty,
        letters,
        lambda x, y: mul[x][y],
        lambda one: one in accepted,
        many,
        many,
    )


def same_words(first, second):
    """Return True if the two readers accept the same words, otherwise False."""
    return least(first) == least(second)


def shortest(reader):
    """Return the shortest word that the reader accepts, a list, or None if there is none."""
    _, letters, mul, accepted = numbered(reader)
    if len(accepted) == 0:
        return None
    lengths = _least_lengths(letters, mul)
    _, reached = min([(lengths[x], x) for x in accepted])
    word = []
    while lengths[reached] > 0:
        letter, reached = _first_letter(letters, mul, lengths, reached)
        word.append(letter)
    return word


def _distinct(things):
    """Return the different ones of the things in the order in which they first stand, a list."""
    return list({thing: True for thing in things})


def _products(mul, found, before):
    """Return the products of a round, without those of two of the values that stood before the last round."""
    products = []
    for at, x in enumerate(found):
        # The last round multiplied its values with one another; their products would add nothing.
        partners = found if at >= before else found[before:]
        products += [mul[x][y] for y in partners]
    return products


def _reached(empty, letters, product, most):
    """Return all values of words, and for each one its products with the letters and where it comes from.

    What a value comes from is a value before it and a letter; the first one, of the empty word, has None.
    """
    found = [empty]
    position = {empty: 0}
    origins = [None]
    behind = []
    while len(behind) < len(found):
        at = len(behind)
        products = [product(found[at], letter) for letter in letters]
        for letter, after in enumerate(products):
            if after not in position:
                position[after] = len(found)
                found.append(after)
                origins.append((at, letter))
        if len(found) > most:
            raise TooManyValues(f"a reader would have more than {most} values")
        behind.append([position[after] for after in products])
    return (found, behind, origins)


def _table(behind, origins):
    """Return the rows of mul of all values that `_reached` returns."""
    rows = []
    for x in range(len(behind)):
        row = [x]
        # Only letters are ever multiplied: x times a word is x times all but its last letter, times that one.
        for before, letter in origins[1:]:
            row.append(behind[row[before]][letter])
        rows.append(tuple(row))
    return tuple(rows)


def _leaders(accepted, behind, origins):
    """Return for each value that `_reached` returns the lowest value that is alike to it."""
    # Each value is a product of letters, so that letters in front and behind tell all values apart.
    neighbours = [x + y for x, y in zip(behind, _in_front(behind, origins))]
    leaders = _firsts(accepted)
    before = []
    while leaders != before:
        before = leaders
        leaders = _firsts([(before[x], *[before[y] for y in near]) for x, near in enumerate(neighbours)])
    return leaders


def _in_front(behind, origins):
    """Return for each value that `_reached` returns its products with the letters in front of it."""
    found = [behind[0]]
    for before, letter in origins[1:]:
        found.append([behind[x][letter] for x in found[before]])
    return found


def _firsts(things):
    """Return for each of the things the first index at which it stands, a list."""
    first = {}
    for at, thing in enumerate(things):
        if thing not in first:
            first[thing] = at
    return [first[thing] for thing in things]


def _least_lengths(letters, mul):
    """Return for each value of a numbered reader the length of a shortest word with it."""
    lengths = {0: 0}
    found = [0]
    while len(found) > 0:
        behind = _distinct([mul[x][letter] for x in found for letter in letters])
        length = lengths[found[0]] + 1
        found = [x for x in behind if x not in lengths]
        for x in found:
            lengths[x] = length
    return lengths


def _first_letter(letters, mul, lengths, reached):
    """Return the first letter of the word of a value, and the value of what follows it."""
    length = lengths[reached] - 1
    ways = [
        (a, y)
        for a, letter in enumerate(letters)
        for y, product in enumerate(mul[letter])
        if product == reached and lengths[y] == length
    ]
    return ways[0]
