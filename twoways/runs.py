"""The runs of machines and the origins of what they write (points 24 and 25)."""

from twoways.tapes import tape_of


def run(machine, word):
    """Return what the machine writes for a word and where from, or None if its run does not stop."""
    return run_on(machine, tape_of(word))


def run_on(machine, row):
    """Return what the machine writes on any row of tape letters and where from, or None."""
    _, _, look, _, _, steps = machine
    table = {step[:4]: step[4:] for step in steps}
    lefts = _values_to_the_left(look, row)
    rights = _values_to_the_right(look, row)
    written = []
    origins = []
    place = 0
    state = 0
    before = set()
    # A machine that comes to a place in the same state again does the same again and never stops.
    while 0 <= place < len(row) and (place, state) not in before:
        before.add((place, state))
        seen = (state, lefts[place], row[place], rights[place])
        if seen not in table:
            return None
        move, after, piece = table[seen]
        for index, letter in enumerate(piece):
            written.append(letter)
            origins.append((place, state, index))
        if move == "stop":
            return (written, origins)
        place += 1 if move == "right" else -1
        state = after
    return None


def _values_to_the_left(look, row):
    """Return for each place the value of the letters to its left."""
    empty, letters, mul, _ = look
    reached = empty
    found = []
    for letter in row:
        found.append(reached)
        reached = mul[reached][letters[letter]]
    return found


def _values_to_the_right(look, row):
    """Return for each place the value of the letters to its right."""
    empty, letters, mul, _ = look
    reached = empty
    found = []
    for letter in row[::-1]:
        found.append(reached)
        reached = mul[letters[letter]][reached]
    return found[::-1]
