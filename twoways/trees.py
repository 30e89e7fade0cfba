"""The trees of edited words (points 43 to 47). The empty tree is None."""

from twoways.stretches import empty_stretch, joined, letter_stretch
from twoways.tapes import END_MARKS


class Leaf:
    """A tree with one letter."""

    def __init__(self, letter, stretch):
        self.letter = letter
        self.stretch = stretch
        self.tall = 1
        self.many = 1


class Pair:
    """A tree of two trees that are not empty."""

    def __init__(self, left, right, stretch):
        self.left = left
        self.right = right
        self.stretch = stretch
        self.tall = 1 + max(left.tall, right.tall)
        self.many = left.many + right.many


class TreeMaker:
    """Makes the trees of the words of a machine, and counts the pairs that it makes. No tree is ever changed."""

    def __init__(self, machine):
        letters = machine[0]
        self.machine = machine
        self.leaves = [Leaf(letter, letter_stretch(machine, letter + END_MARKS)) for letter in range(letters)]
        self.nothing = empty_stretch(machine)
        self.pairs = 0

    def begin_count(self):
        """Count pairs from here on."""
        self.pairs = 0

    def stretch_in(self, tree):
        """Return the kept stretch of the word of a tree."""
        return self.nothing if tree is None else tree.stretch

    def pair(self, near, far, mirrored):
        """Return the pair of two trees, near and far in this order, or in the other one if it is mirrored."""
        left, right = (far, near) if mirrored else (near, far)
        self.pairs += 1
        return Pair(left, right, joined(self.machine, left.stretch, right.stretch))

    def in_row(self, first, second):
        """Return two trees joined, so that the word of the second one is after that of the first one."""
        if first is None:
            return second
        if second is None:
            return first
        if second.tall <= first.tall:
            return self.hung(first, second, False)
        return self.hung(second, first, True)

    def hung(self, tree, other, mirrored):
        """Return the other tree, which is not higher than the tree, joined to its right, or mirrored, to its left."""
        if isinstance(tree, Leaf) or other.tall >= max(tree.left.tall, tree.right.tall):
            return self.pair(tree, other, mirrored)
        near, far = _parts(tree, mirrored)
        grown = self.hung(far, other, mirrored)
        if grown.tall <= near.tall + 1:
            return self.pair(near, grown, mirrored)
        inner, outer = _parts(grown, mirrored)
        if inner.tall <= outer.tall:
            return self.pair(self.pair(near, inner, mirrored), outer, mirrored)
        first, second = _parts(inner, mirrored)
        return self.pair(self.pair(near, first, mirrored), self.pair(second, outer, mirrored), mirrored)

    def cut(self, tree, at):
        """Return the two trees of the letters in front of a place, and from there on."""
        if tree is None:
            return (None, None)
        if isinstance(tree, Leaf):
            return (None, tree) if at == 0 else (tree, None)
        split = tree.left.many
        if at == split:
            return (tree.left, tree.right)
        if at < split:
            before, after = self.cut(tree.left, at)
            return (before, self.in_row(after, tree.right))
        before, after = self.cut(tree.right, at - split)
        return (self.in_row(tree.left, before), after)

    def tree_of(self, word):
        """Return the tree of a word, laid letter by letter."""
        tree = None
        for letter in word:
            tree = self.in_row(tree, self.leaves[letter])
        return tree


def letters_of(tree):
    """Return the word of a tree, a list."""
    if tree is None:
        return []
    if isinstance(tree, Leaf):
        return [tree.letter]
    return letters_of(tree.left) + letters_of(tree.right)


def _parts(tree, mirrored):
    """Return the two trees of a pair, from left to right, or from right to left if it is mirrored."""
    return (tree.right, tree.left) if mirrored else (tree.left, tree.right)
