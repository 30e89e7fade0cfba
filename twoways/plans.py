"""What plans write (points 26 to 28)."""

from twoways.marked import width
from twoways.meaning import holds
from twoways.readers import accepts, values_to_the_left, values_to_the_right
from twoways.tapes import LONGEST_WORD, tape_of


def planned(plan, word):
    """Return what a plan writes for a word and where from, or None if nothing is told."""
    _, copies, domain, place, ahead = plan
    tape = tape_of(word)
    if not accepts(domain, tape):
        return None
    places = [_places_of(reader, tape) for reader in place]
    tables = [
        [_table_of(reader, tape, places[c], places[d]) for d, reader in enumerate(readers)]
        for c, readers in enumerate(ahead)
    ]
    return _told(copies, places, tables)


def told_by(written_plan, word):
    """Return what a written plan writes for a word and where from, or None if nothing is told."""
    _, copies, domain, place, ahead = written_plan
    tape = tape_of(word)
    if not holds(domain, tape, []):
        return None
    places = [[x for x in range(len(tape)) if holds(sentence, tape, [[x]])] for sentence in place]
    tables = [
        [
            [[holds(sentence, tape, [[x], [y]]) for y in places[d]] for x in places[c]]
            for d, sentence in enumerate(sentences)
        ]
        for c, sentences in enumerate(ahead)
    ]
    return _told(copies, places, tables)


def through(first, second, word):
    """Return what the second plan writes for what the first one writes for a word, or None."""
    told = planned(first, word)
    if told is None or len(told[0]) > LONGEST_WORD:
        return None
    if any([letter >= second[0] for letter in told[0]]):
        return None
    return planned(second, told[0])


def _told(copies, places, tables):
    """Return the letters and the origins of all that stand in their order, or None if they have none.

    `places` has for each copy where it stands, and `tables` tells what is ahead of what: a copy at one of its places
    of a copy at one of its places, by the indexes of copy, copy, place and place.
    """
    scores = []
    for c, stands in enumerate(places):
        for at, x in enumerate(stands):
            scores.append((_count_behind(tables, c, at), x, c))
    scores = sorted(scores, reverse=True)
    # No two are each before the other one, so that they stand in order if and only if these counts are all different:
    # the first one is before all others, the second one before all but the first one, and so on.
    if [many for many, _, _ in scores] != list(reversed(range(len(scores)))):
        return None
    return ([copies[c] for _, _, c in scores], [(x, c) for _, x, c in scores])


def _count_behind(tables, c, at):
    """Return the number of those that a copy at one of its places is ahead of, while they are not ahead of it."""
    many = 0
    for d, table in enumerate(tables[c]):
        others = tables[d][c]
        many += len([other for other, is_ahead in enumerate(table[at]) if is_ahead and not others[other][at]])
    return many


def _places_of(reader, tape):
    """Return the places that the reader accepts if they alone are in a set, a list."""
    around = Surroundings(reader, tape, 1)
    return [x for x in range(len(tape)) if around.accepts_at(x)]


def _table_of(reader, tape, firsts, seconds):
    """Return for each of some places a list, which tells for each other one whether the reader accepts the two."""
    if len(firsts) == 0 or len(seconds) == 0:
        return [[] for _ in firsts]
    around = Surroundings(reader, tape, 2)
    table = []
    for x in firsts:
        row = around.row_of(x)
        table.append([row[y] for y in seconds])
    return table


class Surroundings:
    """The values of all that surrounds single places of a tape on which few places are in sets."""

    def __init__(self, reader, tape, sets):
        empty, letters, mul, accepted = reader
        self.mul = mul
        self.is_accepted = [value in accepted for value in range(len(mul))]
        codes = width(sets)
        # For each code the value of each letter of the tape, if its place has this code.
        self.marks = [[letters[letter * codes + code] for letter in tape] for code in range(codes)]
        bare = [letter * codes for letter in tape]
        self.lefts = values_to_the_left(reader, bare, empty)
        self.rights = values_to_the_right(reader, bare, empty)

    def accepts_at(self, x):
        """Return True if the tape is accepted with x alone in the set 0."""
        return self.accepts_around(self.lefts[x], self.marks[1][x], self.rights[x])

    def accepts_around(self, left, middle, right):
        """Return True if the value of three parts one after the other is accepted."""
        return self.is_accepted[self.mul[self.mul[left][middle]][right]]

    def row_of(self, x):
        """Return for each place y whether the tape is accepted with x alone in the set 0, and y alone in the set 1."""
        bare, first, second, both = self.marks
        mul = self.mul
        row = []
        behind = mul[first[x]][self.rights[x]]
        for y in reversed(range(x)):
            row.append(self.accepts_around(self.lefts[y], second[y], behind))
            behind = mul[bare[y]][behind]
        row = row[::-1] + [self.accepts_around(self.lefts[x], both[x], self.rights[x])]
        before = mul[self.lefts[x]][first[x]]
        for y in range(x + 1, len(bare)):
            row.append(self.accepts_around(before, second[y], self.rights[y]))
            before = mul[before][bare[y]]
        return row
