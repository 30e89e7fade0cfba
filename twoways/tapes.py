"""Words and their tapes, and the faults of machines (points 1 to 5)."""

from twoways.checks import all_within, is_ascending, is_within
from twoways.readers import fault

LEFT_END = 0
RIGHT_END = 1
# The tape letters that stand for no letter of a word come first.
END_MARKS = 2

LONGEST_WORD = 200
MOST_LETTERS = 3
MOST_STATES = 4
MOST_LOOK_VALUES = 6
MOST_WIDTH = 2
GREATEST_OUT = 2
MOST_STEPS = 200
MOVES = ("left", "right", "stop")


def tape_of(word):
    """Return the tape of a word, a list."""
    return [LEFT_END] + [letter + END_MARKS for letter in word] + [RIGHT_END]


def word_of(tape):
    """Return the word of a tape, a list."""
    return [letter - END_MARKS for letter in tape[1:-1]]


def fault_of(machine):
    """Return None if the machine is valid, otherwise the word for its first fault."""
    # Without six members it is not told which one is the first that is wrong.
    if len(machine) != 6:
        return "letters"
    letters, states, look, width, outs, steps = machine
    if not is_within(letters, 1, MOST_LETTERS):
        return "letters"
    if not is_within(states, 1, MOST_STATES):
        return "states"
    if not _is_look(letters, look):
        return "look"
    if not is_within(width, 0, MOST_WIDTH):
        return "width"
    if not all_within(outs, 0, GREATEST_OUT) or not is_ascending(outs):
        return "outs"
    if len(steps) > MOST_STEPS or not _are_steps(machine):
        return "steps"
    # Ascending first four members say at once that whole steps ascend and that no two share them.
    if not is_ascending([step[:4] for step in steps]):
        return "order"
    return None


def _is_look(letters, look):
    """Return True if the look is a reader of the tape letters with few enough values."""
    # Many values are refused before they are multiplied, which takes long.
    if len(look) != 4 or len(look[2]) > MOST_LOOK_VALUES:
        return False
    return fault(letters + END_MARKS, look) is None


def _are_steps(machine):
    """Return True if all steps of a machine whose other members are valid have the form of a step."""
    for step in machine[5]:
        if not _is_step(machine, step):
            return False
    return True


def _is_step(machine, step):
    """Return True if the step has seven members of the right kinds within their bounds."""
    if not isinstance(step, tuple) or len(step) != 7:
        return False
    letters, states, look, width, outs, _ = machine
    state, left, letter, right, move, after, piece = step
    last_value = len(look[2]) - 1
    return (
        is_within(state, 0, states - 1)
        and is_within(left, 0, last_value)
        and is_within(letter, 0, letters + END_MARKS - 1)
        and is_within(right, 0, last_value)
        and move in MOVES
        and is_within(after, 0, states - 1)
        and _is_piece(width, outs, piece)
    )


def _is_piece(width, outs, piece):
    """Return True if the piece is a tuple of at most width members of outs."""
    if not isinstance(piece, tuple) or len(piece) > width:
        return False
    for letter in piece:
        if not is_within(letter, 0, GREATEST_OUT) or letter not in outs:
            return False
    return True
