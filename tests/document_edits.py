"""Points 43 to 51 of the document again, word by word and as slow as they stand there, to compare with.

A tree is None, a letter, or a pair of two trees.
"""


def height(tree):
    if tree is None:
        return 0
    return 1 if isinstance(tree, int) else 1 + max(height(tree[0]), height(tree[1]))


def letters(tree):
    if tree is None:
        return []
    return [tree] if isinstance(tree, int) else letters(tree[0]) + letters(tree[1])


def is_even(tree):
    """Whether the heights of the two trees of each pair differ by at most one."""
    if tree is None or isinstance(tree, int):
        return True
    return abs(height(tree[0]) - height(tree[1])) <= 1 and is_even(tree[0]) and is_even(tree[1])


class PlainEdits:
    """An edited word without a machine."""

    def __init__(self, many_letters, word):
        self.many_letters = many_letters
        self.pairs = 0
        self.tree = self.laid(word)
        self.made = self.pairs
        self.done = []
        self.taken_back = []

    def pair(self, x, y):
        self.pairs += 1
        return (x, y)

    def join(self, x, y):
        if x is None or y is None:
            return y if x is None else x
        return self.to_the_right(x, y) if height(y) <= height(x) else self.to_the_left(x, y)

    def to_the_right(self, x, y):
        if isinstance(x, int) or (height(x[0]) <= height(y) and height(x[1]) <= height(y)):
            return self.pair(x, y)
        a, b = x
        z = self.to_the_right(b, y)
        if height(z) - height(a) <= 1:
            return self.pair(a, z)
        c, d = z
        if height(c) <= height(d):
            return self.pair(self.pair(a, c), d)
        e, f = c
        return self.pair(self.pair(a, e), self.pair(f, d))

    def to_the_left(self, x, y):
        if isinstance(y, int) or (height(y[0]) <= height(x) and height(y[1]) <= height(x)):
            return self.pair(x, y)
        b, a = y
        z = self.to_the_left(x, b)
        if height(z) - height(a) <= 1:
            return self.pair(z, a)
        d, c = z
        if height(c) <= height(d):
            return self.pair(d, self.pair(c, a))
        f, e = c
        return self.pair(self.pair(d, f), self.pair(e, a))

    def cut(self, tree, i):
        if tree is None:
            return None, None
        if isinstance(tree, int):
            return (None, tree) if i == 0 else (tree, None)
        x, y = tree
        m = len(letters(x))
        if i == m:
            return x, y
        if i < m:
            u, v = self.cut(x, i)
            return u, self.join(v, y)
        u, v = self.cut(y, i - m)
        return self.join(x, u), v

    def laid(self, word):
        tree = None
        for letter in word:
            tree = self.join(tree, letter)
        return tree

    def word(self):
        return letters(self.tree)

    def insert(self, at, word):
        def edit():
            x, y = self.cut(self.tree, at)
            w = self.laid(word)
            return self.join(self.join(x, w), y)

        wrong = [place for place, letter in enumerate(word) if not 0 <= letter < self.many_letters]
        length = len(self.word())
        if wrong:
            return ("InvalidLetter", wrong[0])
        if not 0 <= at <= length:
            return ("OutsideWord",)
        if length + len(word) > 200:
            return ("WordTooLong",)
        return self.edited(edit)

    def remove(self, at, many):
        def edit():
            x, y = self.cut(self.tree, at)
            u, z = self.cut(y, many)
            return self.join(x, z)

        if at < 0 or many < 0 or at + many > len(self.word()):
            return ("OutsideWord",)
        return self.edited(edit)

    def edited(self, edit):
        if len(self.done) == 100:
            return ("TooManyEdits",)
        self.done.append((self.tree, self.made))
        self.pairs = 0
        self.tree = edit()
        self.made = self.pairs
        self.taken_back = []
        return None

    def undo(self):
        if not self.done:
            return False
        self.taken_back.append((self.tree, self.made))
        self.tree, self.made = self.done.pop()
        return True

    def redo(self):
        if not self.taken_back:
            return False
        self.done.append((self.tree, self.made))
        self.tree, self.made = self.taken_back.pop()
        return True

    def state(self):
        return (self.word(), self.made, height(self.tree), len(self.done), len(self.taken_back))
