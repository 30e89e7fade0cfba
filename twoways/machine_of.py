"""The tests of plans, and the machines of plans (points 37 to 39)."""

from twoways.errors import TooManySteps
from twoways.facts import Facts
from twoways.marked import width
from twoways.moves import moved
from twoways.tapes import END_MARKS
from twoways.trails import LEFT, RIGHT, STOP
from twoways.values import numbered, reader_from, values

MOST_STEPS = 20000

# Tests are of tapes with two sets; the codes of letters that are bare, marked 1 and marked 2.
SETS = 2
BARE = 0
MARKED_1 = 1
MARKED_2 = 2

# The tests of two copies, of which there is one for each pair, in their order.
HERE = 0
TO_THE_RIGHT = 1
TO_THE_LEFT = 2
NEXT = 3


def tests_of(plan):
    """Return the list of the tests of a plan, readers of lists with two sets. Raises TooManyValues."""
    facts = Facts(plan)
    copies = facts.copies
    next_tests = [facts.following(c, d) for c in copies for d in copies]
    anywhere = [facts.domain, facts.none_stands()]
    at_one_place = [facts.first(d) for d in copies]
    at_one_place += [moved(reader, 2, [0, 0], 1) for reader in next_tests]
    at_one_place += [facts.place_beside(reader, 0, 1) for reader in next_tests]
    at_one_place += [facts.place_beside(reader, 1, 0) for reader in next_tests]
    tests = [moved(reader, 0, [], SETS) for reader in anywhere]
    tests += [moved(reader, 1, [0], SETS) for reader in at_one_place]
    return tests + next_tests


def machine_for(plan):
    """Return the machine of a plan. Raises TooManyValues and TooManySteps."""
    letters, copies, _, _, _ = plan
    many = len(copies)
    sight = Sight(many, letters + END_MARKS, tests_of(plan))
    outs = sorted(set(copies)) if many > 0 else [0]
    states = 1 + 2 * many * many * sight.many_values()
    steps = Steps(copies, sight).all_steps()
    return (letters, states, numbered(sight.bare_reader()), many + 1, tuple(outs), tuple(steps))


class Sight:
    """The sight of a plan with so many copies, and which tests its values pass."""

    def __init__(self, copies, count, tests):
        self.copies = copies
        self.count = count
        reader, told = _sight_from(tests)
        self.letters = reader[1]
        self.mul = reader[2]
        accepted = [test[3] for test in tests]
        # For each value whether it passes each of the tests.
        self.passed = [[x in some for x, some in zip(row, accepted)] for row in told]

    def many_values(self):
        """Return the number of values."""
        return len(self.mul)

    def bare_reader(self):
        """Return the reader of bare letters that has the values of the sight."""
        return (0, self.letters[BARE::width(SETS)], self.mul, ())

    def bare_values(self):
        """Return the list of the values for which the values of the look stand."""
        return values(self.bare_reader(), len(self.mul))

    def letter_value(self, letter, code):
        """Return the value of a letter in the sets of the code."""
        return self.letters[letter * width(SETS) + code]

    def after(self, first, second):
        """Return the value of two parts, one after the other."""
        return self.mul[first][second]

    def around(self, left, letter, code, right):
        """Return the value of a letter in the sets of the code between two parts."""
        return self.after(self.after(left, self.letter_value(letter, code)), right)

    def is_in_domain(self, x):
        """Return True if the value passes DOMAIN."""
        return self.passed[x][0]

    def has_none(self, x):
        """Return True if the value passes NONE."""
        return self.passed[x][1]

    def first_copy(self, x):
        """Return the lowest copy d such that the value passes FIRST(d), or None."""
        return _lowest(self.passed[x][2:2 + self.copies])

    def passed_by(self, x, kind, c):
        """Return for each copy d whether the value passes the test of this kind of c and d, a list."""
        first = 2 + self.copies + (kind * self.copies + c) * self.copies
        return self.passed[x][first:first + self.copies]

    def next_copy(self, x, kind, c):
        """Return the lowest copy d such that the value passes the test of this kind of c and d, or None."""
        return _lowest(self.passed_by(x, kind, c))


class Steps:
    """The steps of the machine of a plan."""

    def __init__(self, copies, sight):
        self.copies = copies
        self.sight = sight
        self.seen = sight.bare_values()
        many = range(len(copies))
        # What a state other than 0 seeks: where, the next one to which copy, which copy, and what is known on its way.
        self.aims = [
            (move, c, d, w)
            for move in (RIGHT, LEFT) for c in many for d in many for w in range(sight.many_values())
        ]
        self.states = {aim: at + 1 for at, aim in enumerate(self.aims)}
        self.found = []

    def all_steps(self):
        """Return all steps, a list in ascending order. Raises TooManySteps."""
        self.add_steps(0, None)
        for at, aim in enumerate(self.aims):
            self.add_steps(at + 1, aim)
        return self.found

    def add_steps(self, state, aim):
        """Add the steps of a state, None being the aim of the state 0."""
        for left, u in enumerate(self.seen):
            for letter in range(self.sight.count):
                for right, v in enumerate(self.seen):
                    done = self.begun(u, letter, v) if aim is None else self.sought(aim, u, letter, v)
                    if done is None:
                        continue
                    if len(self.found) == MOST_STEPS:
                        raise TooManySteps(f"a machine would have more than {MOST_STEPS} steps")
                    self.found.append((state, left, letter, right) + done)

    def begun(self, u, letter, v):
        """Return what is done in the state 0: the move, the state after it and the piece; or None."""
        sight = self.sight
        bare = sight.around(u, letter, BARE, v)
        if not sight.is_in_domain(bare):
            return None
        if sight.has_none(bare):
            return (STOP, 0, ())
        d = sight.first_copy(sight.around(u, letter, MARKED_1, v))
        return (RIGHT, 0, ()) if d is None else self.written(d, u, letter, v)

    def sought(self, aim, u, letter, v):
        """Return what is done in a state that seeks."""
        move, c, d, w = aim
        sight = self.sight
        bare = sight.letter_value(letter, BARE)
        if move == RIGHT:
            x = sight.around(w, letter, MARKED_2, v)
            walked = sight.after(w, bare)
        else:
            x = sight.around(u, letter, MARKED_2, w)
            walked = sight.after(bare, w)
        if sight.passed_by(x, NEXT, c)[d]:
            return self.written(d, u, letter, v)
        return (move, self.states[(move, c, d, walked)], ())

    def written(self, d, u, letter, v):
        """Return what is done at a place whose copy d comes next: all that is written there, and where it goes."""
        sight = self.sight
        x = sight.around(u, letter, MARKED_1, v)
        chosen = [d]
        following = sight.next_copy(x, HERE, d)
        while following is not None and len(chosen) <= len(self.copies):
            chosen.append(following)
            following = sight.next_copy(x, HERE, following)
        c = chosen[-1]
        piece = tuple([self.copies[copy] for copy in chosen])
        mark = sight.letter_value(letter, MARKED_1)
        e = sight.next_copy(x, TO_THE_RIGHT, c)
        if e is not None:
            return (RIGHT, self.states[(RIGHT, c, e, sight.after(u, mark))], piece)
        e = sight.next_copy(x, TO_THE_LEFT, c)
        if e is not None:
            return (LEFT, self.states[(LEFT, c, e, sight.after(mark, v))], piece)
        return (STOP, 0, piece)


def _sight_from(tests):
    """Return the reader of the values of all tests, and for each of its values the list of these."""
    rows = [test[2] for test in tests]

    def product(x, y):
        return tuple([mul[one][other] for mul, one, other in zip(rows, x, y)])

    empty = tuple([test[0] for test in tests])
    letter_values = [test[1] for test in tests]
    letters = list(zip(*letter_values))
    reader = reader_from(empty, letters, product, _is_never_accepted)
    told = {0: empty}
    waiting = [0]
    while len(waiting) > 0:
        at = waiting.pop()
        for value, letter in zip(reader[1], letters):
            after = reader[2][at][value]
            if after not in told:
                told[after] = product(told[at], letter)
                waiting.append(after)
    return (reader, [told[at] for at in range(len(reader[2]))])


def _is_never_accepted(_):
    """Return False, whatever the value is."""
    return False


def _lowest(told):
    """Return the lowest index at which the list has True, or None."""
    return told.index(True) if True in told else None
