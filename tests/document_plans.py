"""Points 26 to 42 of the document again, word by word and as slow as they stand there, to compare with."""

import itertools


def worth(reader, row):
    empty, letters, mul, _ = reader
    reached = empty
    for letter in row:
        reached = mul[reached][letters[letter]]
    return reached


def accepted(reader, row):
    return worth(reader, row) in reader[3]


def tape(word):
    return [0] + [letter + 2 for letter in word] + [1]


def with_sets(row, *sets):
    """The row marked with sets of places."""
    return [
        letter * 2 ** len(sets) + sum(2 ** i for i in range(len(sets)) if place in sets[i])
        for place, letter in enumerate(row)
    ]


# Points 26 and 27.

class PlanOnTape:
    """What a plan says of one tape, or of any list of tape letters."""

    def __init__(self, plan, row):
        _, self.copies, self.domain, self.place, self.ahead = plan
        self.row = row
        self.known = {}

    def speaks(self):
        return accepted(self.domain, self.row)

    def stands(self, c, x):
        return accepted(self.place[c], with_sets(self.row, [x]))

    def is_ahead(self, c, x, d, y):
        if (c, x, d, y) not in self.known:
            self.known[c, x, d, y] = accepted(self.ahead[c][d], with_sets(self.row, [x], [y]))
        return self.known[c, x, d, y]

    def is_before(self, c, x, d, y):
        return self.is_ahead(c, x, d, y) and not self.is_ahead(d, y, c, x)

    def all_that_stand(self):
        return [(c, x) for c in range(len(self.copies)) for x in range(len(self.row)) if self.stands(c, x)]

    def orders(self):
        """All orders such that of any two the earlier one is before the later one."""
        standing = self.all_that_stand()

        def is_order(order):
            return all(self.is_before(*first, *second) for first, second in itertools.combinations(order, 2))

        if len(standing) <= 6:
            return [order for order in itertools.permutations(standing) if is_order(order)]
        # An order begins with one that is before all others.
        order = []
        left = list(standing)
        while left:
            firsts = [one for one in left if all(one == other or self.is_before(*one, *other) for other in left)]
            if not firsts:
                return []
            order.append(firsts[0])
            left.remove(firsts[0])
        return [tuple(order)] if is_order(order) else []

    def told(self):
        if not self.speaks():
            return None
        orders = self.orders()
        assert len(orders) <= 1
        if not orders:
            return None
        return ([self.copies[c] for c, x in orders[0]], [(x, c) for c, x in orders[0]])


def plan_tells(plan, word):
    return PlanOnTape(plan, tape(word)).told()


# Points 29 and 30.

def deed_by_steps(machine, row, left, right, side, state):
    _, states, look, _, _, steps = machine
    mul = look[2]
    place = {"left": 0, "right": len(row) - 1}[side]
    written = ()
    for _ in range(len(row) * states + 1):
        if place < 0:
            return ("out", "left", state, written)
        if place >= len(row):
            return ("out", "right", state, written)
        before = mul[left][worth(look, row[:place])]
        after = mul[worth(look, row[place + 1:])][right]
        found = [step for step in steps if step[:4] == (state, before, row[place], after)]
        if not found:
            return None
        move, state, piece = found[0][4:]
        written += piece
        if move == "stop":
            return ("stop", written)
        place += {"left": -1, "right": 1}[move]
    return None


def stretch_by_steps(machine, row):
    """The kept stretch of a row, deed by deed."""
    values = range(len(machine[2][2]))
    deeds = {
        (left, right, side, state): deed_by_steps(machine, row, left, right, side, state)
        for left in values for right in values for side in ("left", "right") for state in range(machine[1])
    }
    return (worth(machine[2], row), deeds)


# Points 34 and 35.

def done_by_steps(machine, row, left, right, side, state):
    """What the machine does in a stretch without what it writes, and the pairs of a copy and a place, as written."""
    _, states, look, width, outs, steps = machine
    mul = look[2]
    table = {step[:4]: step[4:] for step in steps}
    place = {"left": 0, "right": len(row) - 1}[side]
    written = []
    for _ in range(len(row) * states + 1):
        if place < 0:
            return ("left", state), written
        if place >= len(row):
            return ("right", state), written
        before = mul[left][worth(look, row[:place])]
        after = mul[worth(look, row[place + 1:])][right]
        if (state, before, row[place], after) not in table:
            return None, []
        move, next_state, piece = table[state, before, row[place], after]
        for index, letter in enumerate(piece):
            written.append(((state * width + index) * len(outs) + outs.index(letter), place))
        if move == "stop":
            return "stop", written
        state = next_state
        place += {"left": -1, "right": 1}[move]
    return None, []


def stretch_value(machine, watched, row, sets):
    """The value of a stretch by point 35; the copies that are watched are the first one and the second one."""
    found = [worth(machine[2], row)]
    values = range(len(machine[2][2]))
    for entrance in itertools.product(values, values, ("left", "right"), range(machine[1])):
        done, written = done_by_steps(machine, row, *entrance)
        times = [[at for at, (copy, place) in enumerate(written) if copy == one and place in sets[i]]
                 for i, one in enumerate(watched)]
        seen = [len(at) > 0 for at in times]
        if len(watched) == 2:
            seen.append(any(first < second for first in times[0] for second in times[1]))
        found.append((done, *seen))
    return tuple(found)


def many_stretch_values(machine, watched, most):
    """How many values stretches have, or None if more than `most`."""
    codes = 2 ** len(watched)
    # For each value a marked stretch that has it; what is behind it makes the same of all that have it.
    found = {stretch_value(machine, watched, [], [[]] * len(watched)): []}
    unread = [[]]
    while unread:
        stretch = unread.pop()
        for letter in range((machine[0] + 2) * codes):
            longer = stretch + [letter]
            sets = [[place for place, one in enumerate(longer) if one >> i & 1] for i in range(len(watched))]
            value = stretch_value(machine, watched, [one // codes for one in longer], sets)
            if value not in found:
                found[value] = longer
                unread.append(longer)
        if len(found) > most:
            return None
    return len(found)


def accepted_by_watching(machine, watched, row, sets):
    """Whether the reader of the plan of a machine accepts a marked row: of the domain, of place or of ahead."""
    empty = machine[2][0]
    done, written = done_by_steps(machine, row, empty, empty, "left", 0)
    times = [[at for at, (copy, place) in enumerate(written) if copy == one and place in sets[i]]
             for i, one in enumerate(watched)]
    if done != "stop":
        return False
    if len(watched) == 2:
        return any(first < second for first in times[0] for second in times[1])
    return all(times)


# Point 37. A plan on a tape tells what its tests accept.

class TestsOnTape(PlanOnTape):
    def __init__(self, plan, row):
        super().__init__(plan, row)
        self.all_copies = range(len(self.copies))
        self.standing = self.all_that_stand()

    def first(self, d, x):
        return (d, x) in self.standing and not any(self.is_before(e, z, d, x) for e, z in self.standing)

    def following(self, c, x, d, y):
        return (
            (d, y) in self.standing and self.is_before(c, x, d, y)
            and not any(self.is_before(c, x, e, z) and self.is_before(e, z, d, y) for e, z in self.standing)
        )

    def all_tests(self, x, y):
        """What the tests accept, in their order."""
        pairs = [(c, d) for c in self.all_copies for d in self.all_copies]
        places = range(len(self.row))
        return (
            [self.speaks(), self.standing == []]
            + [self.first(d, x) for d in self.all_copies]
            + [self.following(c, x, d, x) for c, d in pairs]
            + [any(self.following(c, x, d, z) for z in places if z > x) for c, d in pairs]
            + [any(self.following(c, x, d, z) for z in places if z < x) for c, d in pairs]
            + [self.following(c, x, d, y) for c, d in pairs]
        )


# Point 41.

def is_out_of_order(plan, word):
    """Whether the plan speaks of the word, and two or three pairs that stand are not in order."""
    on_tape = PlanOnTape(plan, tape(word))
    standing = on_tape.all_that_stand()
    if not on_tape.speaks():
        return False
    before = {(a, b) for a in standing for b in standing if on_tape.is_before(*a, *b)}
    if any((a, b) not in before and (b, a) not in before for a, b in itertools.combinations(standing, 2)):
        return True
    return any((a, c) not in before for a, b in before for other, c in before if other == b)
