"""What machines do in stretches of tapes, and kept stretches (points 29 to 33)."""

from twoways.trails import LEFT, RIGHT, STOP, deeds_by_sight, trail

OUT = "out"

# Of two stretches one after the other, on which side one leaves the first one and the second one for good.
OUTER_SIDES = ("left", "right")


def deed(machine, row, left, right, side, state):
    """Return the deed of the machine in a row that it enters on a side in a state."""
    place = 0 if side == LEFT else len(row) - 1
    found = trail(machine, row, (left, right), place, state)
    if found is None:
        return None
    end, after, taken = found
    written = tuple([letter for _, _, piece in taken for letter in piece])
    return (STOP, written) if end == STOP else (OUT, end, after, written)


def letter_stretch(machine, letter):
    """Return the kept stretch of one tape letter."""
    taken = deeds_by_sight(machine)
    deeds = {}
    for left, right, side, state in entrances(machine):
        found = taken.get((state, left, letter, right))
        deeds[(left, right, side, state)] = None if found is None else _deed_of(found)
    return (machine[2][1][letter], deeds)


def empty_stretch(machine):
    """Return the kept stretch of the empty stretch."""
    deeds = {}
    for left, right, side, state in entrances(machine):
        deeds[(left, right, side, state)] = (OUT, _other_side(side), state, ())
    return (machine[2][0], deeds)


def joined(machine, first, second):
    """Return the kept stretch of two kept stretches, one after the other."""
    deeds = {}
    for entrance, passed in zip(entrances(machine), passages(machine, first, second)):
        deeds[entrance] = None if passed is None else _deed_along(passed)
    return (machine[2][2][first[0]][second[0]], deeds)


def stretch_of(machine, row):
    """Return the kept stretch of a list of tape letters."""
    letters = {letter: letter_stretch(machine, letter) for letter in row}
    reached = empty_stretch(machine)
    for letter in row:
        reached = joined(machine, reached, letters[letter])
    return reached


def written_by(machine, stretch):
    """Return the list of what the run over the tape with this kept stretch writes, or None if it does not stop."""
    empty = machine[2][0]
    found = stretch[1][(empty, empty, LEFT, 0)]
    if found is None or found[0] != STOP:
        return None
    return list(found[1])


def entrances(machine):
    """Return all tuples of a left value, a right value, a side and a state, a list."""
    all_values = range(len(machine[2][2]))
    states = range(machine[1])
    return [
        (left, right, side, state)
        for left in all_values for right in all_values for side in (LEFT, RIGHT) for state in states
    ]


def passages(machine, first, second):
    """Return for each entrance, in order, how the machine passes through two kept stretches, one after the other.

    This is None if it never leaves or stops; otherwise it is a list with, for each of the two that is entered, which
    of them it is, 0 or 1, the entrance and the deed there.
    """
    mul = machine[2][2]
    both = (first[1], second[1])
    found = []
    for left, right, side, state in entrances(machine):
        around = ((left, mul[second[0]][right]), (mul[left][first[0]], right))
        found.append(_passage(both, around, side, state))
    return found


def _other_side(side):
    """Return the side that is not this one."""
    return RIGHT if side == LEFT else LEFT


def _passage(both, around, side, state):
    """Return one of the passages, by the deeds in both stretches and the left and right values of both."""
    at = 0 if side == LEFT else 1
    passed = []
    entered = set()
    # From outside it enters but once, so that what it enters again it enters again from inside.
    while (at, side, state) not in entered:
        entered.add((at, side, state))
        entrance = around[at] + (side, state)
        found = both[at][entrance]
        if found is None:
            return None
        passed.append((at, entrance, found))
        if found[0] == STOP or found[1] == OUTER_SIDES[at]:
            return passed
        at = 1 - at
        side = OUTER_SIDES[1 - at]
        state = found[2]
    return None


def _deed_along(passed):
    """Return the deed of a machine that passes through two stretches."""
    written = ()
    for _, _, found in passed:
        written += found[-1]
    last = passed[-1][2]
    return last[:-1] + (written,)


def _deed_of(step):
    """Return the deed of a machine that takes a step in the stretch of one letter."""
    move, after, piece = step
    return (STOP, piece) if move == STOP else (OUT, move, after, piece)
