import copy
import itertools
import unittest

from document import laid, sentence_part, walk_part
from examples import changed, composing, counting, keeping_first, some_numbers, some_readers, table
from sentence_examples import choices_of_sets, rows_of
from twoways.errors import TooManyLines
from twoways.marked import marked, width
from twoways.meaning import depth_of, holds
from twoways.readers import accepts, fault, value
from twoways.walks import sentence_for, sets_for, walk_for

ONE_VALUE = (0, (0,), ((0,),), (0,))

# The walk of ONE_VALUE for one letter and no set, written down after point 23.
ONE_VALUE_WALK = (
    # 1: `all` of ALL of YES alone.
    ("set", 0), ("set", 0), ("not", 1), ("and", 0, 2), ("not", 3),
    ("set", 0), ("set", 0), ("not", 6), ("and", 5, 7), ("not", 8),
    ("and", 4, 9),
    ("all", 10),
    # 2: `first` of BEHIND(0), with IS(0, 0), `set 0` and IF.
    ("letter", 0),
    ("set", 0), ("set", 0), ("not", 14), ("and", 13, 15), ("not", 16),
    ("and", 12, 17),
    ("set", 0),
    ("not", 19), ("and", 18, 20), ("not", 21),
    ("set", 0), ("set", 0), ("not", 24), ("and", 23, 25), ("not", 26),
    ("and", 22, 27),
    ("first", 28),
    # 3: `last` of ANY of `set 0`.
    ("set", 0), ("not", 30),
    ("set", 0), ("set", 0), ("not", 33), ("and", 32, 34), ("not", 35), ("not", 36),
    ("not", 37), ("and", 31, 38), ("not", 39),
    ("last", 40),
    # 4: `next` of `set 0` and BEHIND(0).
    ("set", 0),
    ("letter", 0),
    ("set", 0), ("set", 0), ("not", 45), ("and", 44, 46), ("not", 47),
    ("and", 43, 48),
    ("set", 0),
    ("not", 50), ("and", 49, 51), ("not", 52),
    ("set", 0), ("set", 0), ("not", 55), ("and", 54, 56), ("not", 57),
    ("and", 53, 58),
    ("next", 42, 59),
    # `all` of YES, and all of these put together.
    ("set", 0), ("set", 0), ("not", 62), ("and", 61, 63), ("not", 64),
    ("all", 65),
    ("both", 60, 66), ("both", 41, 67), ("both", 29, 68), ("both", 11, 69),
)


def moved(lines, by):
    """Lines with greater numbers, as they stand behind so many other lines."""
    return tuple(
        (name, *members) if name in ("set", "letter", "one") else (name, *(member + by for member in members))
        for name, *members in lines
    )


def readers_of(count, sets):
    """Small readers of marked letters."""
    letters = count * 2 ** sets
    found = [counting(letters, many)[:3] + (accepted,) for many in (1, 2, 3) for accepted in ((), (0,), (many - 1,))]
    found.append((0, tuple(some_numbers(3, letters, 3)), keeping_first(3), (0, 1)))
    found.append((2, tuple(some_numbers(4, letters, 3)), table(3, min), (1,)))
    found.append(composing(2, some_numbers(5, letters, 4), (0, 3)))
    found.append(composing(2, some_numbers(6, letters, 4), (2,), 3))
    return found


class WalkTest(unittest.TestCase):
    def test_by_hand(self):
        self.assertEqual(walk_for(1, 0, ONE_VALUE), ONE_VALUE_WALK)

    def test_nothing_accepted(self):
        # ANY of nothing is `not` of YES: 6 lines and `last`, where there were 12.
        third_part = (("set", 0), ("set", 0), ("not", 31), ("and", 30, 32), ("not", 33), ("not", 34), ("last", 35))
        behind = tuple(
            (name, *members) if name in ("set", "letter") else
            (name, *(member - 5 if member >= 41 else member for member in members))
            for name, *members in ONE_VALUE_WALK[42:]
        )
        found = walk_for(1, 0, changed(ONE_VALUE, 3, ()))
        self.assertEqual(found, ONE_VALUE_WALK[:30] + third_part + behind)

    def test_two_values_tell_which_sets_they_are(self):
        lines = walk_for(1, 1, (0, (1, 0), counting(1, 2)[2], (1,)))
        # The first part: YES, IF(1, not 2), IF(2, not 1), YES, then YES and four `and`.
        self.assertEqual(lines[5:11], (("set", 1), ("set", 2), ("not", 6), ("not", 7), ("and", 5, 8), ("not", 9)))
        self.assertEqual(lines[11:17], (("set", 2), ("set", 1), ("not", 12), ("not", 13), ("and", 11, 14), ("not", 15)))
        self.assertEqual(lines[27:32], (("and", 21, 26), ("and", 16, 27), ("and", 10, 28), ("and", 4, 29), ("all", 30)))
        # BEHIND(0): the letter 0 outside of set 0 has the value 1, and inside the value 0.
        self.assertEqual(lines[32:35], (("letter", 0), ("set", 0), ("not", 33)))
        self.assertEqual(lines[40:46], (
            ("and", 34, 39), ("and", 32, 40), ("set", 2), ("not", 42), ("and", 41, 43), ("not", 44)))
        self.assertEqual(lines[46:48], (("letter", 0), ("set", 0)))
        self.assertEqual(lines[53:59], (
            ("and", 47, 52), ("and", 46, 53), ("set", 1), ("not", 55), ("and", 54, 56), ("not", 57)))
        self.assertEqual(lines[64:67], (("and", 58, 63), ("and", 45, 64), ("first", 65)))

    def test_against_the_document(self):
        for count, sets in itertools.product((1, 2, 3), (0, 1, 2)):
            for reader in readers_of(count, sets):
                self.assertIsNone(fault(count * 2 ** sets, reader))
                self.assertEqual(walk_for(count, sets, reader), laid(walk_part(count, sets, reader)))
                self.assertEqual(sentence_for(count, sets, reader), laid(sentence_part(count, sets, reader)))

    def test_holds_with_the_sets_of_a_word(self):
        for count, sets in ((1, 0), (2, 0), (3, 0), (1, 1), (2, 1), (1, 2)):
            for reader in readers_of(count, sets):
                walk = walk_for(count, sets, reader)
                for row in rows_of(count, 3):
                    for given in choices_of_sets(sets, len(row)):
                        word = marked(row, given)
                        expected = accepts(reader, word) or row == []
                        self.assertIs(holds(walk, row, given + sets_for(count, sets, reader, word)), expected)

    def test_does_not_hold_with_other_sets(self):
        reader = (0, (0, 1), counting(1, 2)[2], (0, 1))
        walk = walk_for(2, 0, reader)
        for row in rows_of(2, 3):
            right = sets_for(2, 0, reader, row)
            for given in choices_of_sets(2, len(row)):
                self.assertIs(holds(walk, row, given), given == right)

    def test_kinds(self):
        for lines in (walk_for(1, 0, ONE_VALUE), sentence_for(1, 0, ONE_VALUE)):
            self.assertIs(type(lines), tuple)
            self.assertTrue(all(type(line) is tuple for line in lines))


class SentenceTest(unittest.TestCase):
    def test_empty_word_not_accepted(self):
        reader = changed(ONE_VALUE, 3, ())
        walk = walk_for(1, 0, reader)
        last = len(walk) + 1
        expected = (("nothing",), ("denied", 0)) + moved(walk, 2) + (("there", last), ("both", 1, last + 1))
        self.assertEqual(sentence_for(1, 0, reader), expected)

    def test_empty_word_accepted(self):
        expected = (("nothing",), ("denied", 0)) + moved(ONE_VALUE_WALK, 2)
        expected += (("there", 72), ("denied", 73), ("both", 1, 74), ("denied", 75))
        self.assertEqual(sentence_for(1, 0, ONE_VALUE), expected)

    def test_as_many_there_as_values(self):
        for many in (1, 2, 5, 9):
            for accepted in ((), (0,)):
                found = sentence_for(1, 0, counting(1, many)[:3] + (accepted,))
                self.assertEqual(depth_of(found), many)
                self.assertEqual(len([line for line in found if line[0] == "there"]), many)

    def test_holds_if_accepted(self):
        for count, sets in ((1, 0), (2, 0), (1, 1), (2, 1), (1, 2)):
            for reader in readers_of(count, sets):
                if len(reader[2]) > 2:
                    continue
                sentence = sentence_for(count, sets, reader)
                for row in rows_of(count, 3 if sets < 2 else 2):
                    for given in choices_of_sets(sets, len(row)):
                        self.assertIs(holds(sentence, row, given), accepts(reader, marked(row, given)))

    def test_three_values(self):
        for accepted in ((0, 1), (1,), (2,)):
            reader = (0, (1, 2), keeping_first(3), accepted)
            sentence = sentence_for(2, 0, reader)
            for row in ([], [0], [1], [0, 1], [1, 0]):
                self.assertIs(holds(sentence, row, []), accepts(reader, row))


class TooManyLinesTest(unittest.TestCase):
    def lines_of_walk(self, count, sets, many, accepted):
        """How many lines a walk has, counted part by part."""
        marks = sum(2 if code // 2 ** i % 2 == 0 else 1 for code in range(2 ** sets) for i in range(sets))
        # IS has the letter, its marks, `and` for each of them, YES and `and`; IF has `set` and three lines more.
        behind = count * (marks + 2 ** sets * (1 + sets + 5 + 1 + 4 + 1)) + 5
        first_part = many * 5 + many * (many - 1) * 6 + many * many + 5 + 1
        third_part = 5 * accepted + 6 + 1
        return first_part + (behind + 1) + third_part + many * (behind + 2) + 6 + 3 + many

    def reader(self, count, sets, many, accepted):
        letters = tuple(at % many for at in range(count * 2 ** sets))
        return (0, letters, counting(1, many)[2], tuple(range(many))[-accepted:] if accepted else ())

    def test_number_of_lines(self):
        for count, sets, many, accepted in ((1, 0, 1, 1), (1, 0, 1, 0), (2, 1, 3, 2), (3, 2, 4, 1), (2, 2, 6, 6)):
            reader = self.reader(count, sets, many, accepted)
            self.assertEqual(len(walk_for(count, sets, reader)), self.lines_of_walk(count, sets, many, accepted))
            more = many + 3 if accepted < many else many + 5
            self.assertEqual(len(sentence_for(count, sets, reader)), self.lines_of_walk(count, sets, many, accepted) + more)

    def test_20000_lines(self):
        for make, more, wanted in (
            (walk_for, 0, (19999, 20000, 20001, 20002)), (sentence_for, 3, (19999, 20000, 20002)),
        ):
            for lines in wanted:
                count, sets, many, accepted = self.found_with(lines, lambda many: many + 3 if more else 0)
                self.assert_made(make, count, sets, self.reader(count, sets, many, accepted), lines)

    def test_lines_for_the_empty_word_count(self):
        for lines in (19999, 20001, 20002):
            count, sets, many, accepted = self.found_with(lines, lambda many: many + 5)
            reader = changed(self.reader(count, sets, many, accepted), 3, tuple(range(accepted)))
            self.assert_made(sentence_for, count, sets, reader, lines)

    def found_with(self, lines, more):
        """Numbers of a reader with so many lines, with so many more than its walk."""
        for count, sets, many in itertools.product(range(1, 6), range(3), range(30, 53)):
            for accepted in range(1, many):
                if self.lines_of_walk(count, sets, many, accepted) + more(many) == lines:
                    return count, sets, many, accepted
        raise AssertionError(lines)

    def assert_made(self, make, count, sets, reader, lines):
        if lines <= 20000:
            self.assertEqual(len(make(count, sets, reader)), lines)
        else:
            with self.assertRaises(TooManyLines):
                make(count, sets, reader)

    def test_the_sentence_has_more_lines_than_the_walk(self):
        reader = self.reader(1, 0, 52, 8)
        self.assertEqual(len(walk_for(1, 0, reader)), 19996)
        with self.assertRaises(TooManyLines):
            sentence_for(1, 0, reader)

    def test_60_and_300_values(self):
        for many in (53, 60, 300):
            for sets in (0, 1, 2):
                reader = self.reader(1, sets, many, 1)
                for make in (walk_for, sentence_for):
                    with self.assertRaises(TooManyLines):
                        make(1, sets, reader)


class SetsTest(unittest.TestCase):
    def test_by_hand(self):
        reader = (0, (1, 2), keeping_first(3), ())
        self.assertEqual(sets_for(2, 0, reader, [1, 0, 0]), [[], [], [0, 1, 2]])
        parity = (0, (1,), counting(1, 2)[2], ())
        self.assertEqual(sets_for(1, 0, parity, [0, 0, 0, 0]), [[1, 3], [0, 2]])
        self.assertEqual(sets_for(1, 0, parity, []), [[], []])

    def test_marked_words(self):
        # The value counts places in the set 0, modulo 3.
        reader = (0, (0, 1, 0, 1), counting(1, 3)[2], ())
        word = marked([1, 0, 1, 1, 0], [[0, 2, 4]])
        self.assertEqual(sets_for(2, 1, reader, word), [[4], [0, 1], [2, 3]])

    def test_values_of_prefixes(self):
        for count, sets in ((1, 0), (2, 0), (2, 1), (3, 2)):
            for reader in some_readers(count * 2 ** sets):
                word = some_numbers(9, 12, count * 2 ** sets)
                found = sets_for(count, sets, reader, word)
                self.assertEqual(len(found), len(reader[2]))
                for v, places in enumerate(found):
                    self.assertEqual(places, [at for at in range(12) if value(reader, word[:at + 1]) == v])

    def test_values_that_words_do_not_have(self):
        self.assertEqual(sets_for(1, 0, (0, (4,), counting(1, 6)[2], ()), [0] * 4), [[2], [], [1], [], [0, 3], []])

    def test_new_lists(self):
        word = [0, 0]
        first, second = sets_for(1, 0, ONE_VALUE, word), sets_for(1, 0, ONE_VALUE, word)
        self.assertEqual((first, type(first), type(first[0])), ([[0, 1]], list, list))
        first[0].append(9)
        self.assertEqual(second, [[0, 1]])
        empty = sets_for(1, 0, counting(1, 3), [])
        empty[0].append(9)
        self.assertEqual(empty, [[9], [], []])
        self.assertEqual(word, [0, 0])


class OwnFileTest(unittest.TestCase):
    def test_arguments_stay(self):
        for reader in readers_of(2, 1):
            kept = copy.deepcopy(reader)
            walk_for(2, 1, reader), sentence_for(2, 1, reader), sets_for(2, 1, reader, [3, 0])
            self.assertEqual(reader, kept)

    def test_defined_in_their_file(self):
        for function in (walk_for, sentence_for, sets_for):
            self.assertEqual(function.__module__, "twoways.walks")


if __name__ == "__main__":
    unittest.main()
