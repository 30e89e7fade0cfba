"""The runs of machines and the origins of what they write (points 24 and 25)."""

from twoways.tapes import tape_of
from twoways.trails import STOP, trail


def run(machine, word):
    """Return what the machine writes for a word and where from, or None if its run does not stop."""
    return run_on(machine, tape_of(word))


def run_on(machine, row):
    """Return what the machine writes on any row of tape letters and where from, or None."""
    empty = machine[2][0]
    found = trail(machine, row, (empty, empty), 0, 0)
    if found is None or found[0] != STOP:
        return None
    written = []
    origins = []
    for place, state, piece in found[2]:
        for index, letter in enumerate(piece):
            written.append(letter)
            origins.append((place, state, index))
    return (written, origins)
