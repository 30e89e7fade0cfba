"""Points 26 to 42 of the document again, word by word and as slow as they stand there, to compare with."""

import itertools


def worth(reader, row):
    empty, letters, mul, _ = reader
    reached = empty
    for letter in row:
        reached = mul[reached][letters[letter]]
    return reached


def accepted(reader, row):
    return worth(reader, row) in reader[3]


def tape(word):
    return [0] + [letter + 2 for letter in word] + [1]


def with_sets(row, *sets):
    """The row marked with sets of places."""
    return [
        letter * 2 ** len(sets) + sum(2 ** i for i in range(len(sets)) if place in sets[i])
        for place, letter in enumerate(row)
    ]


# Points 26 and 27.

class PlanOnTape:
    """What a plan says of one tape, or of any list of tape letters."""

    def __init__(self, plan, row):
        _, self.copies, self.domain, self.place, self.ahead = plan
        self.row = row
        self.known = {}

    def speaks(self):
        return accepted(self.domain, self.row)

    def stands(self, c, x):
        return accepted(self.place[c], with_sets(self.row, [x]))

    def is_ahead(self, c, x, d, y):
        if (c, x, d, y) not in self.known:
            self.known[c, x, d, y] = accepted(self.ahead[c][d], with_sets(self.row, [x], [y]))
        return self.known[c, x, d, y]

    def is_before(self, c, x, d, y):
        return self.is_ahead(c, x, d, y) and not self.is_ahead(d, y, c, x)

    def all_that_stand(self):
        return [(c, x) for c in range(len(self.copies)) for x in range(len(self.row)) if self.stands(c, x)]

    def orders(self):
        """All orders such that of any two the earlier one is before the later one."""
        standing = self.all_that_stand()

        def is_order(order):
            return all(self.is_before(*first, *second) for first, second in itertools.combinations(order, 2))

        if len(standing) <= 6:
            return [order for order in itertools.permutations(standing) if is_order(order)]
        # An order begins with one that is before all others.
        order = []
        left = list(standing)
        while left:
            firsts = [one for one in left if all(one == other or self.is_before(*one, *other) for other in left)]
            if not firsts:
                return []
            order.append(firsts[0])
            left.remove(firsts[0])
        return [tuple(order)] if is_order(order) else []

    def told(self):
        if not self.speaks():
            return None
        orders = self.orders()
        assert len(orders) <= 1
        if not orders:
            return None
        return ([self.copies[c] for c, x in orders[0]], [(x, c) for c, x in orders[0]])


def plan_tells(plan, word):
    return PlanOnTape(plan, tape(word)).told()


# Points 29 and 30.

def deed_by_steps(machine, row, left, right, side, state):
    _, states, look, _, _, steps = machine
    mul = look[2]
    place = {"left": 0, "right": len(row) - 1}[side]
    written = ()
    for _ in range(len(row) * states + 1):
        if place < 0:
            return ("out", "left", state, written)
        if place >= len(row):
            return ("out", "right", state, written)
        before = mul[left][worth(look, row[:place])]
        after = mul[worth(look, row[place + 1:])][right]
        found = [step for step in steps if step[:4] == (state, before, row[place], after)]
        if not found:
            return None
        move, state, piece = found[0][4:]
        written += piece
        if move == "stop":
            return ("stop", written)
        place += {"left": -1, "right": 1}[move]
    return None


def stretch_by_steps(machine, row):
    """The kept stretch of a row, deed by deed."""
    values = range(len(machine[2][2]))
    deeds = {
        (left, right, side, state): deed_by_steps(machine, row, left, right, side, state)
        for left in values for right in values for side in ("left", "right") for state in range(machine[1])
    }
    return (worth(machine[2], row), deeds)
