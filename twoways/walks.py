"""The walks and the sentences of readers, and the sets that tell their values (point 23)."""

from twoways.errors import TooManyLines
from twoways.marked import width

MOST_LINES = 20000


def walk_for(count, sets, reader):
    """Return the walk of a reader, a tuple of lines. Raises TooManyLines."""
    lines = Lines()
    Walk(lines, count, sets, reader).lay()
    return tuple(lines.laid)


def sentence_for(count, sets, reader):
    """Return the sentence of a reader. Raises TooManyLines."""
    empty, _, mul, accepted = reader
    lines = Lines()
    some_place = lines.put(("denied", lines.put(("nothing",))))
    inside = Walk(lines, count, sets, reader).lay()
    for _ in mul:
        inside = lines.put(("there", inside))
    if empty in accepted:
        inside = lines.put(("denied", inside))
    last = lines.put(("both", some_place, inside))
    if empty in accepted:
        lines.put(("denied", last))
    return tuple(lines.laid)


def sets_for(count, sets, reader, word):
    """Return the list of the sets that tell the values of a marked word, each a list of places."""
    reached, letters, mul, _ = reader
    told = [[] for _ in mul]
    for place, letter in enumerate(word):
        reached = mul[reached][letters[letter]]
        told[reached].append(place)
    return told


class Lines:
    """Lines as they are laid out one after the other; what a method lays is told by the number of its last line."""

    def __init__(self):
        self.laid = []

    def put(self, line):
        """Lay one line."""
        if len(self.laid) == MOST_LINES:
            raise TooManyLines(f"a sentence would have more than {MOST_LINES} lines")
        self.laid.append(line)
        return len(self.laid) - 1

    def negated(self, part):
        """Lay `not` of a line about one place."""
        return self.put(("not", part))

    def yes(self):
        """Lay YES."""
        first = self.put(("set", 0))
        second = self.negated(self.put(("set", 0)))
        return self.negated(self.put(("and", first, second)))

    def every(self, parts):
        """Lay ALL of lines about one place, behind all their lines."""
        reached = self.yes()
        for part in reversed(parts):
            reached = self.put(("and", part, reached))
        return reached

    def some(self, negations):
        """Lay ANY of lines about one place, behind all their lines and the `not` of each of them."""
        reached = self.negated(self.yes())
        for negation in reversed(negations):
            reached = self.negated(self.put(("and", negation, self.negated(reached))))
        return reached

    def implied(self, condition, consequence):
        """Lay IF, behind the lines of both its parts."""
        return self.negated(self.put(("and", condition, self.negated(consequence))))


class Walk:
    """The walk of one reader."""

    def __init__(self, lines, count, sets, reader):
        self.lines = lines
        self.count = count
        self.sets = sets
        self.reader = reader

    def lay(self):
        """Lay all lines of the walk."""
        lines = self.lines
        empty, _, mul, accepted = self.reader
        parts = [self.single_values()]
        parts.append(lines.put(("first", self.behind(empty))))
        negations = [lines.negated(self.has_value(x)) for x in accepted]
        parts.append(lines.put(("last", lines.some(negations))))
        for x in range(len(mul)):
            before = self.has_value(x)
            parts.append(lines.put(("next", before, self.behind(x))))
        reached = lines.put(("all", lines.yes()))
        for part in reversed(parts):
            reached = lines.put(("both", part, reached))
        return reached

    def has_value(self, x):
        """Lay the line that tells that a place has a value."""
        return self.lines.put(("set", self.sets + x))

    def single_values(self):
        """Lay the line that tells that no place has two values."""
        many = len(self.reader[2])
        pairs = [self.apart(x, y) for x in range(many) for y in range(many)]
        return self.lines.put(("all", self.lines.every(pairs)))

    def apart(self, x, y):
        """Lay the line that tells that a place with one value has not another one."""
        if x == y:
            return self.lines.yes()
        one = self.has_value(x)
        return self.lines.implied(one, self.lines.negated(self.has_value(y)))

    def behind(self, before):
        """Lay BEHIND: a place has the value that its letter makes of the value before it."""
        _, letters, mul, _ = self.reader
        codes = width(self.sets)
        parts = []
        for letter in range(self.count):
            for code in range(codes):
                condition = self.is_marked(letter, code)
                after = mul[before][letters[letter * codes + code]]
                parts.append(self.lines.implied(condition, self.has_value(after)))
        return self.lines.every(parts)

    def is_marked(self, letter, code):
        """Lay IS: a place has a letter and is in just the sets of the code."""
        plain = self.lines.put(("letter", letter))
        marks = [self.mark(number, code) for number in range(self.sets)]
        return self.lines.put(("and", plain, self.lines.every(marks)))

    def mark(self, number, code):
        """Lay the line that tells whether a place is in a set, as the code does."""
        inside = self.lines.put(("set", number))
        return inside if code >> number & 1 == 1 else self.lines.negated(inside)
