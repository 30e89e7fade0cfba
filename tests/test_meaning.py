import copy
import itertools
import unittest

from document import line_says, sentence_says
from sentence_examples import (
    KINDS, PLACE_LINES, PLACE_PARTS, ROW_LINES, choices_of_sets, rows_of, some_sentences, with_each_row_line,
)
from twoways.meaning import depth_of, holds, is_valid, size_of

# Lines 0 to 3 are about one place and lines 4 to 6 about a row.
FRONT = (("letter", 0), ("set", 0), ("not", 1), ("and", 0, 2), ("all", 3), ("nothing",), ("denied", 4))
PLACES = (0, 1, 2, 3)
ROWS = (4, 5, 6)
NO_INTEGERS_HERE = (-1, -2, -7, 7, 8, 60, 10 ** 20)


def right_members(kind, count):
    return {"set": range(4), "letter": range(count), "place": PLACES, "row": ROWS}[kind]


def wrong_members(kind, count):
    return {
        "set": (-1, -4, 4, 5, 10 ** 20),
        "letter": (-1, -2, count, count + 1, 10 ** 20),
        "place": NO_INTEGERS_HERE + ROWS,
        "row": NO_INTEGERS_HERE + PLACES,
    }[kind]


class IsValidTest(unittest.TestCase):
    def assert_valid(self, count, sentence, expected=True):
        self.assertIs(is_valid(count, sentence), expected, (count, sentence))

    def behind(self, line):
        """A sentence in which the line stands behind the lines in front, and in which the last line is about a row."""
        return FRONT + (line, ("nothing",))

    def test_each_form(self):
        self.assert_valid(1, FRONT)
        for count in (1, 2, 3, 5, 12):
            for name, kinds in KINDS.items():
                for members in itertools.product(*(right_members(kind, count) for kind in kinds)):
                    self.assert_valid(count, self.behind((name, *members)))
                    self.assert_valid(count, FRONT + ((name, *members),), name in ROW_LINES)

    def test_each_member_beyond_its_bounds(self):
        for count in (1, 2, 3, 5):
            for name, kinds in KINDS.items():
                right = [right_members(kind, count) for kind in kinds]
                for at, kind in enumerate(kinds):
                    for wrong in wrong_members(kind, count):
                        for members in itertools.product(*right[:at], (wrong,), *right[at + 1:]):
                            self.assert_valid(count, self.behind((name, *members)), False)

    def test_too_few_and_too_many_integers(self):
        for name, kinds in KINDS.items():
            for size in range(6):
                for member in (0, 1, 4, 5):
                    if size != len(kinds):
                        self.assert_valid(2, self.behind((name,) + (member,) * size), False)
        self.assert_valid(2, (("nothing", 0),), False)
        self.assert_valid(2, (("one",),), False)
        self.assert_valid(2, (("one", 0, 0),), False)

    def test_unknown_names(self):
        for name in ("", "sets", "Set", "SET", "or", "either", "none", "all ", " all", "any", "place", "row", "lette",
                     "letterr", "not not", "exists", "\x00", "\u00e4", "forall", "__len__", "keys"):
            for members in ((), (0,), (4,), (0, 0), (4, 4), (0, 0, 0)):
                self.assert_valid(2, self.behind((name, *members)), False)
                self.assert_valid(2, ((name, *members),), False)

    def test_empty_lines(self):
        self.assert_valid(2, ((),), False)
        self.assert_valid(2, ((), ("nothing",)), False)
        self.assert_valid(2, (("nothing",), ()), False)
        self.assert_valid(2, self.behind(()), False)

    def test_number_of_lines(self):
        self.assert_valid(1, (), False)
        self.assert_valid(1, (("nothing",),))
        for many, expected in ((2, True), (59, True), (60, True), (61, False), (62, False), (600, False)):
            self.assert_valid(1, (("nothing",),) * many, expected)
            chain = (("nothing",),) + tuple(("both", at, at) for at in range(many - 1))
            self.assert_valid(1, chain, expected)
            self.assert_valid(1, (("set", 3),) * (many - 1) + (("nothing",),), expected)

    def test_last_line_about_one_place(self):
        self.assert_valid(1, (("set", 0),), False)
        self.assert_valid(1, (("letter", 0),), False)
        self.assert_valid(1, (("nothing",), ("set", 0)), False)
        self.assert_valid(1, (("set", 0), ("all", 0), ("not", 0)), False)
        self.assert_valid(1, (("set", 0), ("all", 0), ("and", 0, 0)), False)

    def test_set_numbers(self):
        for number in range(-5, 10):
            self.assert_valid(1, (("one", number),), 0 <= number <= 3)
            self.assert_valid(1, (("set", number), ("all", 0)), 0 <= number <= 3)

    def test_letters(self):
        for count in (1, 2, 3, 4, 5):
            for letter in range(-3, 8):
                self.assert_valid(count, (("letter", letter), ("all", 0)), 0 <= letter < count)

    def test_own_number_and_later_lines(self):
        for name, kinds in KINDS.items():
            for at, kind in enumerate(kinds):
                if kind in ("place", "row"):
                    right = PLACES[0] if kind == "place" else ROWS[0]
                    members = [right] * len(kinds)
                    # Its own number, and that of a later line of the right kind.
                    for wrong in (len(FRONT), len(FRONT) + 1, len(FRONT) + 2):
                        members[at] = wrong
                        later = (("set", 0), ("nothing",)) if kind == "place" else (("nothing",), ("nothing",))
                        self.assert_valid(2, FRONT + ((name, *members),) + later, False)
        self.assert_valid(1, (("denied", 0),), False)
        self.assert_valid(1, (("there", 1), ("nothing",)), False)
        self.assert_valid(1, (("nothing",), ("denied", 1)), False)
        self.assert_valid(1, (("nothing",), ("denied", 0)))
        self.assert_valid(1, (("nothing",), ("denied", -1)), False)
        self.assert_valid(1, (("nothing",), ("nothing",), ("both", 0, -1)), False)
        self.assert_valid(1, (("nothing",), ("nothing",), ("both", -2, 1)), False)

    def test_lines_that_are_not_used_count(self):
        for wrong in ((), ("set", 4), ("letter", 1), ("x",), ("not", 0), ("all", 1), ("one", -1)):
            self.assert_valid(1, (wrong, ("nothing",)), False)
            self.assert_valid(1, (("nothing",), wrong, ("nothing",)), False)

    def test_true_and_false_are_no_integers(self):
        self.assert_valid(2, (("one", True),), False)
        self.assert_valid(2, (("one", False),), False)
        self.assert_valid(2, (("letter", False), ("all", 0)), False)
        self.assert_valid(2, (("nothing",), ("denied", False)), False)

    def test_every_sentence_of_two_lines(self):
        lines = [()]
        for name in (*KINDS, "x"):
            for size in range(3):
                lines += [(name, *members) for members in itertools.product((-1, 0, 1, 4), repeat=size)]
        for first, second in itertools.product(lines, lines):
            self.assert_valid(1, (first, second), self.is_right(first, ()) and self.is_right(second, (first,), True))

    def is_right(self, line, earlier, is_last=False):
        if not line or line[0] not in KINDS or len(KINDS[line[0]]) != len(line) - 1:
            return False
        if is_last and line[0] not in ROW_LINES:
            return False
        for kind, member in zip(KINDS[line[0]], line[1:]):
            if kind == "set" and member not in range(4):
                return False
            if kind == "letter" and member != 0:
                return False
            if kind in ("place", "row"):
                if member not in range(len(earlier)):
                    return False
                if earlier[member][0] not in (PLACE_LINES if kind == "place" else ROW_LINES):
                    return False
        return True

    def test_depth_does_not_count(self):
        self.assert_valid(1, (("nothing",),) + tuple(("there", at) for at in range(59)))


def read_lines(sentence, at):
    """Point 18 again: the numbers of the lines that are read from a line on."""
    name, *members = sentence[at]
    found = [at]
    if name not in ("set", "letter", "one"):
        for part in members:
            found += read_lines(sentence, part)
    return found


def depth_from(sentence, at):
    name, *members = sentence[at]
    parts = [] if name in ("set", "letter", "one") else members
    return (name == "there") + max([depth_from(sentence, part) for part in parts], default=0)


class DepthAndSizeTest(unittest.TestCase):
    def assert_both(self, sentence, depth, size):
        self.assertEqual((depth_of(sentence), size_of(sentence)), (depth, size), sentence)
        self.assertEqual((depth_from(sentence, len(sentence) - 1), len(read_lines(sentence, len(sentence) - 1))),
                         (depth, size))

    def test_single_lines(self):
        self.assert_both((("nothing",),), 0, 1)
        self.assert_both((("one", 3),), 0, 1)
        self.assert_both((("set", 2), ("all", 0)), 0, 2)
        self.assert_both((("letter", 0), ("next", 0, 0)), 0, 3)

    def test_numbers_of_sets_and_letters_are_no_lines(self):
        self.assert_both((("nothing",), ("there", 0), ("one", 1)), 0, 1)
        self.assert_both((("set", 0), ("letter", 0), ("set", 1), ("all", 2)), 0, 2)
        self.assert_both((("set", 0), ("letter", 0), ("all", 1)), 0, 2)

    def test_there_in_there(self):
        self.assert_both((("nothing",), ("there", 0)), 1, 2)
        self.assert_both((("nothing",), ("there", 0), ("there", 1)), 2, 3)
        self.assert_both((("nothing",), ("there", 0), ("denied", 1), ("there", 2)), 2, 4)

    def test_there_beside_there(self):
        self.assert_both((("nothing",), ("there", 0), ("there", 0), ("both", 1, 2)), 1, 5)
        self.assert_both((("nothing",), ("there", 0), ("there", 1), ("both", 1, 2)), 2, 6)
        self.assert_both((("nothing",), ("there", 0), ("there", 1), ("both", 2, 1)), 2, 6)
        self.assert_both((("nothing",), ("there", 0), ("both", 0, 1)), 1, 4)

    def test_lines_that_are_used_several_times(self):
        self.assert_both((("set", 0), ("and", 0, 0), ("and", 1, 1), ("next", 2, 1)), 0, 11)
        self.assert_both((("nothing",), ("there", 0), ("both", 1, 1), ("there", 2)), 2, 6)

    def test_lines_that_are_not_used(self):
        sentence = (("nothing",), ("there", 0), ("there", 1), ("set", 0), ("not", 3), ("all", 3), ("denied", 5))
        self.assert_both(sentence, 0, 3)

    def test_60_lines(self):
        doubled = (("nothing",),) + tuple(("both", at, at) for at in range(59))
        self.assertEqual((depth_of(doubled), size_of(doubled)), (0, 2 ** 60 - 1))
        deep = (("nothing",),) + tuple(("there", at) for at in range(59))
        self.assertEqual((depth_of(deep), size_of(deep)), (59, 60))
        growing = (("nothing",), ("there", 0)) + tuple(("both", at - 1, at - 2) for at in range(2, 60))
        sizes = [1, 2]
        while len(sizes) < 60:
            sizes.append(1 + sizes[-1] + sizes[-2])
        self.assertEqual((depth_of(growing), size_of(growing)), (1, sizes[-1]))

    def test_many_sentences(self):
        for sentence in some_sentences(2, 300, 8):
            self.assert_both(sentence, depth_from(sentence, len(sentence) - 1),
                             len(read_lines(sentence, len(sentence) - 1)))


class HoldsTest(unittest.TestCase):
    def assert_holds(self, sentence, row, sets, expected):
        self.assertIs(holds(sentence, row, sets), expected, (sentence, row, sets))
        self.assertIs(sentence_says(sentence, row, sets), expected)

    def assert_same(self, sentence, row, sets):
        self.assertIs(holds(sentence, row, sets), sentence_says(sentence, row, sets), (sentence, row, sets))

    def test_all(self):
        sentence = (("letter", 1), ("all", 0))
        for row, expected in (([], True), ([1], True), ([0], False), ([1, 1], True), ([1, 0], False), ([0, 1], False)):
            self.assert_holds(sentence, row, [], expected)

    def test_next(self):
        sentence = (("letter", 0), ("letter", 1), ("next", 0, 1))
        for row, expected in (
            ([], True), ([0], True), ([1], True), ([0, 1], True), ([0, 0], False), ([1, 0], True), ([0, 1, 0], True),
            ([1, 0, 0], False), ([0, 1, 0, 2], False), ([2, 2], True), ([2, 0], True), ([0, 1, 1, 1, 0], True),
        ):
            self.assert_holds(sentence, row, [], expected)

    def test_first_and_last(self):
        for row, first, last in (
            ([], True, True), ([0], False, False), ([1], True, True), ([1, 0], True, False), ([0, 1], False, True),
            ([1, 0, 1], True, True), ([0, 1, 0], False, False),
        ):
            self.assert_holds((("letter", 1), ("first", 0)), row, [], first)
            self.assert_holds((("letter", 1), ("last", 0)), row, [], last)

    def test_nothing(self):
        self.assert_holds((("nothing",),), [], [], True)
        for row in ([0], [1, 0], [0] * 200):
            self.assert_holds((("nothing",),), row, [], False)

    def test_one(self):
        for number in (0, 1):
            for places, expected in (([], False), ([0], True), ([2], True), ([0, 1], False), ([0, 1, 2], False)):
                sets = [[], []]
                sets[number] = places
                self.assert_holds((("one", number),), [0, 0, 0], sets, expected)
        self.assert_holds((("one", 0),), [], [[]], False)

    def test_denied_and_both(self):
        full, empty = (("nothing",), ("denied", 0)), (("nothing",),)
        self.assert_holds(full, [], [], False)
        self.assert_holds(full, [0], [], True)
        for first, second in itertools.product((empty, full), repeat=2):
            moved = tuple((name, *(member + len(first) for member in members)) for name, *members in second)
            sentence = first + moved + (("both", len(first) - 1, len(first) + len(second) - 1),)
            self.assert_holds(sentence, [0], [], first == full and second == full)
            self.assert_holds(sentence, [], [], first == empty and second == empty)

    def test_sets_and_letters(self):
        for name in ("first", "last"):
            self.assert_holds((("set", 0), (name, 0)), [5], [[0]], True)
            self.assert_holds((("set", 0), (name, 0)), [5], [[]], False)
            self.assert_holds((("set", 1), (name, 0)), [5], [[], [0]], True)
            self.assert_holds((("set", 1), (name, 0)), [5], [[0], []], False)
            self.assert_holds((("letter", 5), (name, 0)), [5], [], True)
            self.assert_holds((("letter", 4), (name, 0)), [5], [], False)

    def test_there(self):
        # There is a place with the letter 1.
        some_one = (("set", 0), ("letter", 1), ("not", 1), ("and", 0, 2), ("not", 3), ("all", 4), ("one", 0),
                    ("both", 5, 6), ("there", 7))
        for row in rows_of(2, 4):
            self.assert_holds(some_one, row, [], 1 in row)
        # Every other place, beginning with the first one, and ending with the last one: odd lengths.
        odd = (("set", 0), ("not", 0), ("next", 0, 1), ("next", 1, 0), ("both", 2, 3), ("first", 0), ("last", 0),
               ("both", 5, 6), ("both", 4, 7), ("nothing",), ("denied", 9), ("both", 8, 10), ("there", 11))
        for length in range(8):
            self.assert_holds(odd, [0] * length, [], length % 2 == 1)

    def test_there_is_always_the_empty_and_the_full_set(self):
        for length in range(5):
            self.assert_holds((("set", 0), ("all", 0), ("there", 1)), [0] * length, [], True)
            self.assert_holds((("set", 0), ("not", 0), ("all", 1), ("there", 2)), [0] * length, [], True)
            self.assert_holds((("one", 0), ("there", 0)), [0] * length, [], length > 0)

    def test_there_in_there(self):
        # Two sets of one place each that differ: at least two places.
        two = (("set", 0), ("set", 1), ("and", 0, 1), ("not", 2), ("all", 3), ("one", 0), ("one", 1), ("both", 5, 6),
               ("both", 4, 7), ("there", 8), ("there", 9))
        for length in range(6):
            self.assert_holds(two, [0] * length, [], length >= 2)
        # With one given set, the other ones have the numbers 1 and 2.
        three = (("set", 1), ("set", 2), ("and", 0, 1), ("not", 2), ("all", 3), ("one", 1), ("one", 2), ("both", 5, 6),
                 ("both", 4, 7), ("one", 0), ("both", 8, 9), ("there", 10), ("there", 11))
        for places in ([], [0], [0, 1]):
            self.assert_holds(three, [0] * 3, [places], len(places) == 1)

    def test_line_that_is_read_at_several_depths(self):
        # Line 0 asks about set 0, which is not there outside of `there`.
        sentence = (("one", 0), ("there", 0), ("denied", 0), ("both", 1, 2))
        for length in range(4):
            self.assert_holds(sentence, [0] * length, [], length > 0)
        # Set 1 is that of the inner `there` alone.
        sentence = (("one", 1), ("there", 0), ("denied", 0), ("both", 1, 2), ("there", 3), ("denied", 0), ("both", 4, 5))
        for length in range(4):
            self.assert_holds(sentence, [0] * length, [], length > 0)

    def test_one_there_beside_another(self):
        # Both sets have the number 0, and each is its own.
        sentence = (("set", 0), ("not", 0), ("all", 0), ("all", 1), ("there", 2), ("there", 3), ("both", 4, 5))
        self.assert_holds(sentence, [0, 0], [], True)
        sentence = (("set", 0), ("not", 0), ("all", 0), ("all", 1), ("both", 2, 3), ("there", 4))
        self.assert_holds(sentence, [0, 0], [], False)

    def test_sets_that_are_not_there(self):
        for number in range(4):
            for given in range(4):
                sets = [[0, 1, 2]] * given
                self.assert_holds((("set", number), ("all", 0)), [0, 0, 0], sets, number < given)
                self.assert_holds((("set", number), ("not", 0), ("all", 1)), [0, 0, 0], sets, number >= given)
                self.assert_holds((("one", number),), [0, 0, 0], [[1]] * given, number < given)
                self.assert_holds((("one", number), ("there", 0)), [0, 0, 0], [[1]] * given, number <= given)

    def test_lines_that_are_not_used(self):
        sentence = (("nothing",), ("there", 0), ("there", 1), ("there", 2), ("there", 3), ("set", 0), ("all", 5))
        self.assert_holds(sentence, [0] * 3, [[0, 1, 2]], True)
        self.assertIs(holds(sentence, [0] * 200, [list(range(200))]), True)

    def test_each_kind_of_line(self):
        for part in PLACE_PARTS:
            for sentence in with_each_row_line(part):
                for row in rows_of(2, 3):
                    for given in (0, 1, 2):
                        for sets in choices_of_sets(given, len(row)):
                            self.assert_same(sentence, row, sets)

    def test_many_sentences(self):
        for sentence in some_sentences(2, 400, 12):
            if size_of(sentence) > 300:
                continue
            for row in ([], [0], [1], [0, 1], [1, 0, 0]):
                if 2 ** (len(row) * depth_of(sentence)) > 512:
                    continue
                for given in (0, 1, 2):
                    for sets in list(choices_of_sets(given, len(row)))[::3]:
                        self.assert_same(sentence, row, sets)

    def test_long_rows(self):
        row = [0, 1] * 100
        self.assertIs(holds((("letter", 0), ("letter", 1), ("next", 0, 1)), row, []), True)
        self.assertIs(holds((("letter", 0), ("letter", 1), ("next", 0, 1)), row + [0, 0], []), False)
        self.assertIs(holds((("set", 0), ("letter", 0), ("not", 1), ("next", 0, 2)), row, [list(range(0, 200, 2))]), True)
        self.assertIs(holds((("one", 1),), row, [[], [199]]), True)
        self.assertIs(holds((("letter", 0), ("last", 0)), [1] * 5000 + [0], []), True)

    def test_the_greatest_trees(self):
        # 12 places and one set, and 2 places and six sets: 4096 choices.
        impossible = (("set", 0), ("not", 0), ("and", 0, 1), ("not", 2), ("all", 0), ("all", 1), ("both", 4, 5),
                      ("there", 6))
        self.assertIs(holds(impossible, [0] * 12, []), False)
        self.assertIs(holds((("nothing",),) + tuple(("there", at) for at in range(6)), [0] * 2, []), False)
        last_choice = (("set", 0), ("all", 0), ("there", 1))
        self.assertIs(holds(last_choice, [0] * 12, []), True)

    def test_size_300(self):
        sentence = (("nothing",),) + tuple(("denied", at) for at in range(59))
        self.assertIs(holds(sentence, [0], []), True)
        self.assertIs(holds(sentence[:-1], [0], []), False)
        wide = (("set", 0), ("and", 0, 0), ("and", 1, 1), ("and", 2, 2), ("and", 3, 3), ("and", 4, 4), ("and", 5, 5),
                ("not", 6), ("next", 6, 7))
        self.assertEqual(size_of(wide), 256)
        self.assertIs(holds(wide, [0, 0, 0], [[0, 2]]), True)
        self.assertIs(holds(wide, [0, 0, 0], [[1, 2]]), False)

    def test_arguments_stay(self):
        for sentence in some_sentences(2, 60, 8):
            if depth_of(sentence) <= 2 and size_of(sentence) <= 300:
                row, sets = [0, 1, 1], [[0, 2], []]
                kept = copy.deepcopy((sentence, row, sets))
                holds(sentence, row, sets)
                is_valid(2, sentence), depth_of(sentence), size_of(sentence)
                self.assertEqual((sentence, row, sets), kept)

    def test_reference_reads_as_it_should(self):
        # The slow reading that the others are compared with, for lines that this file reads by hand.
        self.assertIs(line_says((("letter", 1), ("all", 0)), 1, [1, 1], []), True)
        self.assertIs(line_says((("one", 0), ("there", 0)), 1, [], []), False)


class OwnFileTest(unittest.TestCase):
    def test_defined_in_their_file(self):
        for function in (is_valid, depth_of, size_of, holds):
            self.assertEqual(function.__module__, "twoways.meaning")


if __name__ == "__main__":
    unittest.main()
