"""The readers of sentences, and the plans of written plans (points 21, 22 and 28)."""

from twoways.marked import width
from twoways.tapes import END_MARKS
from twoways.values import denied, joint, least, reader_from

# The values of stretches that are not told by truth alone.
NONE = "none"
BROKEN = "broken"


def reader_with(count, sentence, given):
    """Return the reader of a sentence with so many given sets. Raises TooManyValues."""
    return LineReaders(count, sentence).least_reader(len(sentence) - 1, given)


def sentence_reader(count, sentence):
    """Return the reader of a sentence without given sets. Raises TooManyValues."""
    return reader_with(count, sentence, 0)


def made_plan(written):
    """Return the plan of a written plan. Raises TooManyValues."""
    letters, copies, domain, place, ahead = written
    count = letters + END_MARKS
    return (
        letters,
        copies,
        sentence_reader(count, domain),
        tuple([reader_with(count, sentence, 1) for sentence in place]),
        tuple([tuple([reader_with(count, sentence, 2) for sentence in row]) for row in ahead]),
    )


class LineReaders:
    """The readers of the lines of a sentence, each of which is made when it is first asked for."""

    def __init__(self, count, sentence):
        self.count = count
        self.sentence = sentence
        # A line that is used several times is made once for each number of sets.
        self.ready = {}

    def least_reader(self, at, sets):
        """Return the reader of a line about the row with so many sets."""
        key = (at, sets)
        if key not in self.ready:
            self.ready[key] = least(self.wide_reader(at, sets))
        return self.ready[key]

    def wide_reader(self, at, sets):
        """Return the reader of a line about the row before it is made least."""
        name, *members = self.sentence[at]
        if name == "denied":
            return denied(self.least_reader(members[0], sets))
        if name == "both":
            first, second = [self.least_reader(part, sets) for part in members]
            return joint("both", first, second)
        if name == "there":
            return _some_choice(self.least_reader(members[0], sets + 1), width(sets))
        if name == "one":
            counts = [code >> members[0] & 1 for _, code in self.marked_letters(sets)]
            return reader_from(0, counts, _sum_up_to_two, _is_one)
        if name == "nothing":
            places = [False for _ in self.marked_letters(sets)]
            return reader_from(True, places, _are_both, _is_so)
        return _reader_of_places(name, [self.truths(part, sets) for part in members])

    def marked_letters(self, sets):
        """Return the pairs of a letter and a code, in the order of the marked letters."""
        return [(letter, code) for letter in range(self.count) for code in range(width(sets))]

    def truths(self, at, sets):
        """Return for each marked letter whether a line about one place holds for it."""
        return [self.is_true(at, letter, code) for letter, code in self.marked_letters(sets)]

    def is_true(self, at, letter, code):
        """Return True if a line about one place holds for a letter in the sets of the code."""
        known = []
        for name, *members in self.sentence[:at + 1]:
            if name == "set":
                known.append(code >> members[0] & 1 == 1)
            elif name == "letter":
                known.append(members[0] == letter)
            elif name == "not":
                known.append(not known[members[0]])
            elif name == "and":
                known.append(known[members[0]] and known[members[1]])
            else:
                # A line about the row, which no line about one place reads.
                known.append(False)
        return known[at]


def _reader_of_places(name, truths):
    """Return the reader of a line about the row that reads lines about one place, by their truths."""
    if name == "all":
        return reader_from(True, truths[0], _are_both, _is_so)
    if name == "first":
        return reader_from(NONE, truths[0], _first_told, _is_none_or_so)
    if name == "last":
        return reader_from(NONE, truths[0], _last_told, _is_none_or_so)
    # Of a stretch it counts whether the second line holds for the first place, and the first line for the last one.
    pairs = list(zip(truths[1], truths[0]))
    return reader_from(NONE, pairs, _next_told, _is_not_broken)


def _some_choice(reader, codes):
    """Return the reader that accepts if the given one does with some choice of the set that has the last number.

    There are so many codes of the other sets.
    """
    empty, letters, mul, accepted = reader
    is_accepted = [x in accepted for x in range(len(mul))]

    def product(xs, ys):
        return tuple(sorted({mul[x][y] for x in xs for y in ys}))

    def accepting(xs):
        return any([is_accepted[x] for x in xs])

    choices = []
    for first in range(0, len(letters), 2 * codes):
        for outside in range(first, first + codes):
            choices.append(tuple(sorted({letters[outside], letters[outside + codes]})))
    return reader_from((empty,), choices, product, accepting)


def _are_both(x, y):
    """Return the value of two stretches, if it is a truth about all their places."""
    return x and y


def _is_so(x):
    """Return a truth itself."""
    return x


def _sum_up_to_two(x, y):
    """Return the value of two stretches, if it is the number of places in a set: none, one, or more."""
    return min(2, x + y)


def _is_one(x):
    """Return True if just one place is in a set."""
    return x == 1


def _first_told(x, y):
    """Return the value of two stretches, if it is what their first place tells."""
    return y if x == NONE else x


def _last_told(x, y):
    """Return the value of two stretches, if it is what their last place tells."""
    return x if y == NONE else y


def _is_none_or_so(x):
    """Return True if there is no place, or if it tells that something holds."""
    return x in (NONE, True)


def _next_told(x, y):
    """Return the value of two stretches, if it is that of a line `next`."""
    if x == NONE:
        return y
    if y == NONE:
        return x
    if x == BROKEN or y == BROKEN:
        return BROKEN
    first_at_last = x[1]
    second_at_next = y[0]
    if first_at_last and not second_at_next:
        return BROKEN
    return (x[0], y[1])


def _is_not_broken(x):
    """Return True if no two places break a line `next`."""
    return x != BROKEN
