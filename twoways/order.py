"""Whether plans order their places (points 41 and 42)."""

from twoways.facts import Facts
from twoways.formulas import any_of, both, some_of
from twoways.moves import moved
from twoways.sentences import sentence_reader
from twoways.tapes import word_of
from twoways.values import shortest

# The first letter is 0 and the last one 1; a 0 stands behind nothing, and nothing stands behind a 1.
IS_TAPE = (
    ("letter", 0), ("letter", 1), ("not", 0), ("and", 0, 2), ("not", 3),
    ("first", 0), ("last", 1), ("next", 4, 2), ("next", 1, 3), ("nothing",), ("denied", 9),
    ("both", 5, 6), ("both", 7, 8), ("both", 11, 12), ("both", 13, 10),
)


def ordered(plan):
    """Return None if the plan is in order, otherwise the word of the shortest tape with no row.

    Raises TooManyValues.
    """
    facts = Facts(plan)
    copies = facts.copies
    is_tape = moved(sentence_reader(facts.count, IS_TAPE), 0, [], 2)
    domain = moved(facts.domain, 0, [], 2)
    # Of two copies it does not matter which one is at x if neither is before the other one.
    faults = [facts.neither_before(c, d) for c in copies for d in copies if c <= d]
    faults += [facts.not_before_by_way(c, d) for c in copies for d in copies]
    faults = [both(both(reader, is_tape), domain) for reader in faults]
    tape = shortest(any_of(facts.count, [some_of(some_of(reader, 2), 1) for reader in faults]))
    return None if tape is None else word_of(tape)
