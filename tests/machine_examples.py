"""Small machines that several tests use."""

import itertools

from examples import counting, keeping_first, some_numbers
from test_runs import blind, machine_of

# Stops in the state 0 at the right end, having written nothing.
SILENT = machine_of(2, 1, blind(2), {
    (0, 0, 0, 0): ("right", 0, ()), (0, 0, 2, 0): ("right", 0, ()), (0, 0, 3, 0): ("right", 0, ()),
    (0, 0, 1, 0): ("stop", 0, ()),
})
AT_ONCE = machine_of(2, 1, blind(2), {(0, 0, 0, 0): ("stop", 0, (2, 0))})
NEVER_STOPS = machine_of(1, 2, blind(1), {
    (0, 0, 0, 0): ("right", 0, (1,)), (0, 0, 2, 0): ("right", 0, (0,)), (0, 0, 1, 0): ("left", 1, ()),
    (1, 0, 2, 0): ("right", 0, ()), (1, 0, 0, 0): ("right", 0, ()),
})
NO_STEPS = (1, 1, blind(1), 1, (0,), ())

# Writes at each end, and then for the last letter.
TO_THE_END = (1, 2, blind(1), 1, (0,), (
    (0, 0, 0, 0, "right", 0, (0,)), (0, 0, 1, 0, "left", 1, (0,)), (0, 0, 2, 0, "right", 0, ()),
    (1, 0, 0, 0, "stop", 1, ()), (1, 0, 1, 0, "stop", 0, ()), (1, 0, 2, 0, "stop", 1, (0,)),
))
# Goes back from the right end and writes each letter.
BACKWARDS = (1, 2, blind(1), 1, (0,), (
    (0, 0, 0, 0, "right", 0, ()), (0, 0, 1, 0, "left", 1, ()), (0, 0, 2, 0, "right", 0, ()),
    (1, 0, 0, 0, "stop", 0, ()), (1, 0, 2, 0, "left", 1, (0,)),
))
# Writes for each letter but the first one; the look tells whether a letter stands there.
ALL_BUT_ONE = (1, 1, (0, (0, 0, 1), keeping_first(2), ()), 1, (1,), (
    (0, 0, 0, 0, "right", 0, ()), (0, 0, 0, 1, "right", 0, ()), (0, 0, 1, 0, "stop", 0, ()),
    (0, 0, 2, 0, "right", 0, ()), (0, 0, 2, 1, "right", 0, ()), (0, 1, 1, 0, "stop", 0, ()),
    (0, 1, 2, 0, "right", 0, (1,)), (0, 1, 2, 1, "right", 0, (1,)),
))
# Machines with the greatest number of values that a reader of the plan has before it is made least.
AROUND_300_VALUES = [((1, 2, blind(1), 1, (0,), steps), values) for values, steps in (
    (298, ((0, 0, 0, 0, "right", 1, (0,)), (0, 0, 1, 0, "right", 0, (0,)), (0, 0, 2, 0, "left", 1, (0,)),
           (1, 0, 0, 0, "right", 1, (0,)), (1, 0, 1, 0, "right", 0, ()), (1, 0, 2, 0, "right", 0, ()))),
    (300, ((0, 0, 0, 0, "left", 1, (0,)), (0, 0, 2, 0, "stop", 0, (0,)), (1, 0, 0, 0, "right", 0, ()),
           (1, 0, 1, 0, "right", 1, ()))),
    (301, ((0, 0, 0, 0, "right", 0, (0,)), (0, 0, 1, 0, "left", 0, (0,)), (0, 0, 2, 0, "right", 1, ()),
           (1, 0, 0, 0, "right", 0, ()), (1, 0, 2, 0, "right", 0, (0,)))),
    (302, ((0, 0, 0, 0, "stop", 0, ()), (0, 0, 1, 0, "left", 0, ()), (0, 0, 2, 0, "stop", 0, (0,)),
           (1, 0, 0, 0, "left", 0, ()), (1, 0, 1, 0, "right", 0, ()), (1, 0, 2, 0, "right", 1, (0,)))),
)]


def small_looks(letters):
    yield blind(letters)
    yield counting(letters + 2, 2)
    yield (0, (0, 0) + (1,) * letters, keeping_first(2), ())
    yield (1, (1, 1) + (0,) * letters, ((0, 0), (0, 1)), ())


def small_machines(rounds):
    """Machines of 1 and 2 states, looks of 1 and 2 values, width 0 to 2 and 0 to 3 outs."""
    chances = iter(some_numbers(17, 400000, 1 << 20))
    for number, (states, width, many_outs) in itertools.product(range(rounds), itertools.product((1, 2), (0, 1, 2), (0, 1, 2, 3))):
        letters = number % 3 + 1
        outs = ((), (next(chances) % 3,), (0, 2), (0, 1, 2))[many_outs]
        for look in small_looks(letters):
            values = range(len(look[2]))
            steps = []
            for sight in itertools.product(range(states), values, range(letters + 2), values):
                chance = next(chances)
                state, _, letter, _ = sight
                # To the right in the state 0, and back in the state 1, but for some steps.
                move = ("right", "left")[state]
                if letter == 1:
                    move = "stop" if states == 1 or state == 1 or chance % 2 else "left"
                elif letter == 0:
                    move = ("right", "stop")[state]
                after = state if letter != 1 else states - 1
                if chance % 16 == 0:
                    move, after = ("right", "left", "stop")[chance // 16 % 3], chance // 64 % states
                size = chance // 128 % (width + 1) if outs else 0
                piece = tuple(outs[at % len(outs)] for at in some_numbers(chance, size, 64))
                if chance // 512 % 16:
                    steps.append(sight + (move, after, piece))
            yield (letters, states, look, width, outs, tuple(steps))


def few_copies():
    """All machines of one state or two that go from left to right, stop at the end, and have at most two copies."""
    for letters, width, outs in ((1, 1, (0,)), (1, 1, (0, 2)), (1, 2, (1,)), (2, 1, (1,))):
        pieces = [piece for size in range(width + 1) for piece in itertools.product(outs, repeat=size)]
        for chosen in itertools.product(pieces, repeat=letters + 2):
            steps = tuple((0, 0, letter, 0, "stop" if letter == 1 else "right", 0, piece)
                          for letter, piece in enumerate(chosen))
            yield (letters, 1, blind(letters), width, outs, steps)
