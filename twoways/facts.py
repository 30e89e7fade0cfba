"""What holds of the copies of a plan at places, as readers (points 37 and 41)."""

from twoways.formulas import any_of, both, some_of
from twoways.moves import is_left, moved
from twoways.sentences import reader_with
from twoways.tapes import END_MARKS
from twoways.values import denied, least

# Exactly one place in the set 0; exactly one in each of the sets 0 and 1.
ONE_PLACE = (("one", 0),)
TWO_PLACES = (("one", 0), ("one", 1), ("both", 0, 1))


class Facts:
    """Readers of lists of tape letters with sets, for one plan.

    x is the only place in the set 0, and y the only one in the set 1. What a plan says of lists with more or fewer
    places in a set does not matter; to have few values, the readers of x, and of x and y, accept none of these.
    """

    def __init__(self, plan):
        letters, copies, domain, place, ahead = plan
        self.count = letters + END_MARKS
        self.copies = list(range(len(copies)))
        self.domain = least(domain)
        one_place = reader_with(self.count, ONE_PLACE, 1)
        two_places = reader_with(self.count, TWO_PLACES, 2)
        self.at_x = [both(least(reader), one_place) for reader in place]
        self.at_y = [moved(reader, 1, [1], 2) for reader in self.at_x]
        self.ahead = [[both(least(reader), two_places) for reader in row] for row in ahead]
        self.before = [[self.found_before(c, d) for d in self.copies] for c in self.copies]

    def found_before(self, c, d):
        """Return the reader that accepts if c at x is before d at y."""
        behind = moved(self.ahead[d][c], 2, [1, 0], 2)
        return both(self.ahead[c][d], denied(behind))

    def none_stands(self):
        """Return the reader without sets that accepts if no copy stands at any place."""
        return denied(any_of(self.count, [some_of(reader, 1) for reader in self.at_x]))

    def first(self, d):
        """Return the reader FIRST, with the set of x: d stands at x, and nothing stands that is before it."""
        earlier = [both(self.at_y[e], moved(self.before[e][d], 2, [1, 0], 2)) for e in self.copies]
        some_earlier = any_of(2 * self.count, [some_of(reader, 2) for reader in earlier])
        return both(self.at_x[d], denied(some_earlier))

    def between(self, c, d):
        """Return the reader that accepts if something stands that c at x is before, and that is before d at y."""
        found = []
        for e in self.copies:
            behind_x = moved(both(self.before[c][e], self.at_y[e]), 2, [0, 2], 3)
            found.append(some_of(both(behind_x, moved(self.before[e][d], 2, [2, 1], 3)), 3))
        return any_of(4 * self.count, found)

    def following(self, c, d):
        """Return the reader NEXT: d stands at y, c at x is before it, and nothing that stands is between them."""
        return both(both(self.at_y[d], self.before[c][d]), denied(self.between(c, d)))

    def place_beside(self, reader, first, second):
        """Return the reader with the set of x that accepts if the given one does for some y.

        Of x in the set 0 and y in the set 1, the one in the set `first` is to the left.
        """
        return some_of(both(reader, is_left(self.count, first, second, 2)), 2)

    def standing(self, c, d):
        """Return the reader that accepts if c stands at x and d stands at y."""
        return both(moved(self.at_x[c], 1, [0], 2), self.at_y[d])

    def neither_before(self, c, d):
        """Return the reader that accepts if c at x and d at y stand and neither is before the other one.

        Of one copy at two places, x is the left one.
        """
        found = self.standing(c, d)
        if c == d:
            found = both(found, is_left(self.count, 0, 1, 2))
        found = both(found, denied(self.before[c][d]))
        return both(found, denied(moved(self.before[d][c], 2, [1, 0], 2)))

    def not_before_by_way(self, c, d):
        """Return the reader that accepts if c at x and d at y stand, with something between them, but not in order."""
        found = both(self.standing(c, d), denied(self.before[c][d]))
        return both(found, self.between(c, d))
