"""The trails of machines: where they go in a row of tape letters, and what they write there."""

from twoways.readers import values_to_the_left, values_to_the_right

STOP = "stop"
LEFT = "left"
RIGHT = "right"


def deeds_by_sight(machine):
    """Return what the machine does for what it sees, a dictionary."""
    return {step[:4]: step[4:] for step in machine[5]}


def trail(machine, row, around, place, state):
    """Return how the machine ends in a row, in which state, and what it writes where; or None.

    It begins at a place in a state, and `around` are the values of what stands to the left and to the right of the
    row. It ends by stopping, or by leaving the row on the left or on the right; None if it does neither. What it
    writes is a list of the place, the state there and the piece, for each step.
    """
    look = machine[2]
    deeds = deeds_by_sight(machine)
    lefts = values_to_the_left(look, row, around[0])
    rights = values_to_the_right(look, row, around[1])
    taken = []
    before = set()
    while 0 <= place < len(row):
        seen = (state, lefts[place], row[place], rights[place])
        # A machine that comes to a place in the same state again does the same again and never ends.
        if seen not in deeds or (place, state) in before:
            return None
        before.add((place, state))
        move, after, piece = deeds[seen]
        taken.append((place, state, piece))
        if move == STOP:
            return (STOP, after, taken)
        place += 1 if move == RIGHT else -1
        state = after
    return (LEFT if place < 0 else RIGHT, state, taken)
