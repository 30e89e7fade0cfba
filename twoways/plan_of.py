"""The plans of machines (points 34 to 36)."""

from twoways.marked import width
from twoways.stretches import empty_stretch, entrances, letter_stretch, passages
from twoways.tapes import END_MARKS
from twoways.trails import LEFT, STOP
from twoways.values import least_from

# What is seen, as a bit: the first copy, the second copy, and the first one before the second one. The copy that is
# watched in the set i has the bit 1 << i.
FIRST_SEEN = 1
SECOND_SEEN = 2
IN_ORDER_SEEN = 4


def plan_for(machine):
    """Return the plan of a machine. Raises TooManyValues."""
    letters, states, _, longest, outs, _ = machine
    many = states * longest * len(outs)
    watching = Watching(machine)
    domain = watching.reader_of([], 0)
    place = [watching.reader_of([c], FIRST_SEEN) for c in range(many)]
    ahead = [
        tuple([watching.reader_of([c, d], IN_ORDER_SEEN) for d in range(many)]) for c in range(many)
    ]
    return (letters, outs * (states * longest), domain, tuple(place), tuple(ahead))


class Watching:
    """What is seen of copies that are watched while the machine passes through stretches.

    The copy watched[i] is watched at the places in the set i. The value of a stretch is the number of what the machine
    does there, and for each entrance what is seen.
    """

    def __init__(self, machine):
        self.machine = machine
        self.doings = Doings(machine)
        self.many_letters = machine[0] + END_MARKS
        stretches = [letter_stretch(machine, letter) for letter in range(self.many_letters)]
        self.empty = self.doings.number_of(empty_stretch(machine))
        self.numbers = [self.doings.number_of(stretch) for stretch in stretches]
        # For each letter and each entrance the copies that are written there, in order.
        self.copies = [self.copies_in(stretch[1]) for stretch in stretches]

    def copies_in(self, deeds):
        """Return for each entrance the copies that are written in the stretch of one letter."""
        _, _, _, longest, outs, _ = self.machine
        found = []
        for entrance in self.doings.entrances:
            first = entrance[3] * longest
            piece = () if deeds[entrance] is None else deeds[entrance][-1]
            found.append([(first + at) * len(outs) + outs.index(letter) for at, letter in enumerate(piece)])
        return found

    def is_ever_written(self, copy):
        """Return True if some step writes the copy."""
        return any([copy in copies for row in self.copies for copies in row])

    def reader_of(self, watched, wanted):
        """Return the least reader of tapes that accepts if the run stops and what is wanted is seen."""
        doings = self.doings
        codes = range(width(len(watched)))
        if not all([self.is_ever_written(copy) for copy in watched]):
            # There are no more values than without this copy, and so not too many if this is made behind that one.
            return (0, (0,) * (self.many_letters * len(codes)), ((0,),), ())

        def product(x, y):
            number, ways = doings.after(x[0], y[0])
            seen = x[1] + y[1]
            return (number, tuple([_seen_along(seen, way) for way in ways]))

        def accepting(x):
            return doings.is_stopping_run(x[0]) and x[1][doings.beginning] & wanted == wanted

        letters = [
            (number, tuple([_seen_at(copies, watched, code) for copies in row]))
            for number, row in zip(self.numbers, self.copies) for code in codes
        ]
        nothing_seen = (0,) * len(doings.entrances)
        return least_from((self.empty, nothing_seen), letters, product, accepting)


class Doings:
    """What a machine does in stretches but for what it writes there.

    All stretches with the same value in which it does the same have one number.
    """

    def __init__(self, machine):
        empty = machine[2][0]
        self.machine = machine
        self.entrances = entrances(machine)
        self.index = {entrance: at for at, entrance in enumerate(self.entrances)}
        self.beginning = self.index[(empty, empty, LEFT, 0)]
        # The value and the deeds of each number, and the numbers of these.
        self.known = []
        self.numbers = {}
        self.ways = {}

    def number_of(self, stretch):
        """Return the number of a kept stretch."""
        value, deeds = stretch
        done = [None if deeds[entrance] is None else deeds[entrance][:-1] for entrance in self.entrances]
        return self.number_for(value, done)

    def number_for(self, value, done):
        """Return the number of stretches with a value, in which this is done for the entrances."""
        key = (value, tuple(done))
        if key not in self.numbers:
            self.numbers[key] = len(self.known)
            self.known.append((value, {entrance: deed for entrance, deed in zip(self.entrances, done)}))
        return self.numbers[key]

    def is_stopping_run(self, number):
        """Return True if the run stops on tapes with this number."""
        deed = self.known[number][1][self.entrances[self.beginning]]
        return deed is not None and deed[0] == STOP

    def after(self, first, second):
        """Return the number of two stretches one after the other, and the ways through them.

        There is a way for each entrance: the indexes of the entrances that are passed, those of the second stretch
        behind all those of the first one. It is empty if the machine neither leaves nor stops.
        """
        if (first, second) not in self.ways:
            self.ways[(first, second)] = self.found_after(first, second)
        return self.ways[(first, second)]

    def found_after(self, first, second):
        """Return what `after` returns, found anew."""
        done = []
        ways = []
        for passed in passages(self.machine, self.known[first], self.known[second]):
            if passed is None:
                done.append(None)
                ways.append([])
            else:
                done.append(passed[-1][2])
                ways.append([at * len(self.entrances) + self.index[entrance] for at, entrance, _ in passed])
        mul = self.machine[2][2]
        return (self.number_for(mul[self.known[first][0]][self.known[second][0]], done), ways)


def _seen_at(copies, watched, code):
    """Return what is seen of a step that writes copies at a place in the sets of the code."""
    told = 0
    for copy in copies:
        marks = [1 << at for at, one in enumerate(watched) if one == copy and code >> at & 1 == 1]
        told = _seen_after(told, sum(marks))
    return told


def _seen_along(seen, way):
    """Return what is seen on a way."""
    told = 0
    for at in way:
        told = _seen_after(told, seen[at])
    return told


def _seen_after(told, more):
    """Return what is seen of two parts of a way, one after the other."""
    if told & FIRST_SEEN > 0 and more & SECOND_SEEN > 0:
        return told | more | IN_ORDER_SEEN
    return told | more
