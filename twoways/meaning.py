"""Sentences: which of them are valid, and what they say of a row (points 14 to 19)."""

from twoways.checks import is_within

MOST_LINES = 60
GREATEST_SET = 3

# What stands behind the name of a line: the number of a set, a letter, or the number of a line about one place
# or about a row.
PLACE_LINES = {
    "set": ("set",),
    "letter": ("letter",),
    "not": ("place",),
    "and": ("place", "place"),
}
ROW_LINES = {
    "all": ("place",),
    "next": ("place", "place"),
    "first": ("place",),
    "last": ("place",),
    "nothing": (),
    "one": ("set",),
    "denied": ("row",),
    "both": ("row", "row"),
    "there": ("row",),
}


def is_valid(count, sentence):
    """Return True if the sentence is valid for so many letters, otherwise False."""
    if not 1 <= len(sentence) <= MOST_LINES:
        return False
    for number, line in enumerate(sentence):
        if not _is_line(count, sentence[:number], line):
            return False
    return sentence[-1][0] in ROW_LINES


def depth_of(sentence):
    """Return the greatest number of `there` lines in one another on the way from the last line."""
    depths = []
    for line in sentence:
        deepest = max([0] + [depths[part] for part in _parts_of(line)])
        depths.append(deepest + int(line[0] == "there"))
    return depths[-1]


def size_of(sentence):
    """Return the number of lines that are read from the last line on, each as often as it is read."""
    sizes = []
    for line in sentence:
        sizes.append(1 + sum([sizes[part] for part in _parts_of(line)]))
    return sizes[-1]


def holds(sentence, row, sets):
    """Return True if the sentence holds for a row of letters with the given sets, otherwise False."""
    letters = {}
    for place, letter in enumerate(row):
        letters[letter] = letters.get(letter, 0) | 1 << place
    given = [_bits(places) for places in sets]
    return Reading(sentence, len(row), letters, given).says(len(sentence) - 1)


class Reading:
    """A sentence as it is read in a row with certain sets.

    Sets of places are integers, in which each place that is in the set has its bit.
    """

    def __init__(self, sentence, many, letters, sets):
        self.sentence = sentence
        self.many = many
        self.letters = letters
        self.sets = sets
        self.everywhere = (1 << many) - 1
        # For each line about one place where it holds; nothing is asked of the others.
        self.where = []
        for line in sentence:
            self.where.append(self.where_holds(line))

    def where_holds(self, line):
        """Return the places for which a line about one place holds."""
        name, *members = line
        if name == "set":
            return self.members_of(members[0])
        if name == "letter":
            return self.letters.get(members[0], 0)
        if name == "not":
            return self.everywhere ^ self.where[members[0]]
        if name == "and":
            return self.where[members[0]] & self.where[members[1]]
        return 0

    def members_of(self, number):
        """Return the set with a number, which is empty if it is not there."""
        return self.sets[number] if number < len(self.sets) else 0

    def says(self, at):
        """Return True if a line about the row holds, otherwise False."""
        name, *members = self.sentence[at]
        if name == "denied":
            return not self.says(members[0])
        if name == "both":
            return self.says(members[0]) and self.says(members[1])
        if name == "there":
            return self.finds(members[0])
        if name == "one":
            chosen = self.members_of(members[0])
            return chosen != 0 and chosen & (chosen - 1) == 0
        if name == "nothing":
            return self.many == 0
        return self.says_of_places(name, [self.where[part] for part in members])

    def says_of_places(self, name, where):
        """Return True if a line about the row holds, by where its lines about one place hold."""
        if name == "all":
            return where[0] == self.everywhere
        if name == "next":
            missing = self.everywhere ^ where[1]
            return where[0] & (missing >> 1) == 0
        if name == "first":
            return self.many == 0 or where[0] & 1 == 1
        return self.many == 0 or where[0] >> (self.many - 1) == 1

    def finds(self, at):
        """Return True if there is one more set of places with which a line about the row holds."""
        for chosen in range(1 << self.many):
            inner = Reading(self.sentence, self.many, self.letters, self.sets + [chosen])
            if inner.says(at):
                return True
        return False


def _is_line(count, earlier, line):
    """Return True if the line is one of a valid sentence, behind lines that are."""
    if len(line) == 0:
        return False
    name, *members = line
    kinds = PLACE_LINES.get(name, ROW_LINES.get(name))
    if kinds is None or len(kinds) != len(members):
        return False
    for kind, member in zip(kinds, members):
        if not _is_member(count, earlier, kind, member):
            return False
    return True


def _is_member(count, earlier, kind, member):
    """Return True if a member of a line is of its kind and within its bounds."""
    if kind == "set":
        return is_within(member, 0, GREATEST_SET)
    if kind == "letter":
        return is_within(member, 0, count - 1)
    if not is_within(member, 0, len(earlier) - 1):
        return False
    return (earlier[member][0] in PLACE_LINES) == (kind == "place")


def _parts_of(line):
    """Return the numbers of the lines that a line reads, one for each time."""
    name, *members = line
    if name in ("set", "letter", "one"):
        return []
    return members


def _bits(places):
    """Return the set of the places, an integer."""
    bits = 0
    for place in places:
        bits |= 1 << place
    return bits
