"""Words that are edited, and what a machine writes for them (points 43 to 51)."""

from twoways.checks import is_within
from twoways.errors import InvalidLetter, InvalidMachine, OutsideWord, TooManyEdits, WordTooLong
from twoways.stretches import joined, letter_stretch, written_by
from twoways.tapes import LEFT_END, LONGEST_WORD, RIGHT_END, fault_of
from twoways.trees import TreeMaker, letters_of

MOST_EDITS = 100


class EditedWord:
    """A word of the letters of a machine that is edited, and for which the machine writes."""

    def __init__(self, machine, word):
        fault = fault_of(machine)
        if fault is not None:
            raise InvalidMachine(fault)
        _check_letters(machine, word)
        _check_length(len(word))
        self.machine = machine
        self.ends = (letter_stretch(machine, LEFT_END), letter_stretch(machine, RIGHT_END))
        self.maker = TreeMaker(machine)
        # The tree and how many pairs were made for it: now, before each edit, and after each edit that is taken back.
        tree = self.maker.tree_of(word)
        self.current = (tree, self.maker.pairs)
        self.earlier = []
        self.later = []

    def insert(self, at, word):
        """Insert a word at a place."""
        _check_letters(self.machine, word)
        length = self.length()
        if not 0 <= at <= length:
            raise OutsideWord(f"there is no place {at} to insert at")
        _check_length(length + len(word))
        self.begin_edit()
        maker = self.maker
        before, after = maker.cut(self.current[0], at)
        self.end_edit(maker.in_row(maker.in_row(before, maker.tree_of(word)), after))

    def remove(self, at, many):
        """Remove so many letters from a place on."""
        if at < 0 or many < 0 or at + many > self.length():
            raise OutsideWord(f"there are no {many} letters from place {at} on")
        self.begin_edit()
        maker = self.maker
        before, rest = maker.cut(self.current[0], at)
        _, after = maker.cut(rest, many)
        self.end_edit(maker.in_row(before, after))

    def undo(self):
        """Take back the last edit that is in force, and return whether there was one."""
        if len(self.earlier) == 0:
            return False
        self.later.append(self.current)
        self.current = self.earlier.pop()
        return True

    def redo(self):
        """Make the edit again that was taken back last, and return whether there was one."""
        if len(self.later) == 0:
            return False
        self.earlier.append(self.current)
        self.current = self.later.pop()
        return True

    def word(self):
        """Return the current word, a new list."""
        return letters_of(self.current[0])

    def written(self):
        """Return the list of what the machine writes for the current word, or None if its run does not stop."""
        left, right = self.ends
        inner = self.maker.stretch_in(self.current[0])
        whole = joined(self.machine, joined(self.machine, left, inner), right)
        return written_by(self.machine, whole)

    def made(self):
        """Return the number of pairs that the last edit made."""
        return self.current[1]

    def height(self):
        """Return the height of the tree."""
        tree = self.current[0]
        return 0 if tree is None else tree.tall

    def edits(self):
        """Return how many edits can be undone."""
        return len(self.earlier)

    def undone(self):
        """Return how many edits can be made again."""
        return len(self.later)

    def length(self):
        """Return the number of letters of the current word."""
        tree = self.current[0]
        return 0 if tree is None else tree.many

    def begin_edit(self):
        """Begin an edit in which nothing but the number of edits can be wrong."""
        if len(self.earlier) == MOST_EDITS:
            raise TooManyEdits(f"there are {MOST_EDITS} edits that can be undone")
        self.maker.begin_count()

    def end_edit(self, tree):
        """End an edit that gives a tree."""
        self.earlier.append(self.current)
        self.current = (tree, self.maker.pairs)
        self.later = []


def _check_letters(machine, word):
    """Raise InvalidLetter if a letter of the word is not a letter of the machine."""
    for place, letter in enumerate(word):
        if not is_within(letter, 0, machine[0] - 1):
            raise InvalidLetter(place)


def _check_length(length):
    """Raise WordTooLong if a word would have too many letters."""
    if length > LONGEST_WORD:
        raise WordTooLong(f"a word has at most {LONGEST_WORD} letters")
