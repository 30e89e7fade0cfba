import copy
import itertools
import unittest

from document import subsets
from document_plans import accepted, with_sets
from examples import composing, some_numbers, some_readers
from plan_examples import IS_LEFT
from sentence_examples import choices_of_sets, rows_of
from twoways.errors import TooManyValues
from twoways.marked import marked, width
from twoways.moves import is_left, moved, some
from twoways.readers import accepts, fault
from twoways.sentences import reader_with
from twoways.values import joint, least, same_words


class MovesTest(unittest.TestCase):
    def assert_least(self, count, reader):
        self.assertIsNone(fault(count, reader))
        self.assertEqual(least(reader), reader)


class MovedTest(MovesTest):
    def assert_moved(self, count, reader, sets, numbers, given, longest):
        """The reader made of one of so many letters accepts what that one accepts with its sets put there."""
        kept = copy.deepcopy((reader, numbers))
        found = moved(reader, sets, numbers, given)
        self.assertEqual((reader, numbers), kept)
        self.assert_least(count * width(given), found)
        for row in rows_of(count, longest):
            for chosen in choices_of_sets(given, len(row)):
                expected = accepted(reader, with_sets(row, *[chosen[number] for number in numbers]))
                self.assertIs(accepts(found, with_sets(row, *chosen)), expected, (numbers, row, chosen))

    def test_each_way_to_number_the_sets(self):
        for sets in range(4):
            readers = some_readers(2 * width(sets))
            for given in (1, 2, 3):
                for at, numbers in enumerate(itertools.product(range(given), repeat=sets)):
                    for reader in (readers[at % len(readers)], readers[(at * 5 + 3) % len(readers)], readers[-1 - at % 6]):
                        self.assert_moved(2, reader, sets, list(numbers), given, 2)

    def test_sets_that_change_places(self):
        first_before_second = is_left(1, 0, 1, 2)
        self.assertEqual(moved(first_before_second, 2, [0, 1], 2), first_before_second)
        self.assertEqual(moved(first_before_second, 2, [1, 0], 2), is_left(1, 1, 0, 2))
        self.assertEqual(moved(first_before_second, 2, [2, 0], 3), is_left(1, 2, 0, 3))
        # Two sets with one number: no place is to the left of itself.
        self.assertEqual(moved(first_before_second, 2, [1, 1], 3), (0, (0,) * 8, ((0,),), ()))

    def test_two_sets_with_one_number(self):
        same = reader_with(2, (("set", 0), ("set", 1), ("not", 1), ("and", 0, 2), ("not", 3), ("all", 4)), 2)
        self.assertEqual(moved(same, 2, [0, 0], 1), (0, (0,) * 4, ((0,),), (0,)))
        for numbers in ([0, 1], [1, 0], [0, 0], [1, 1], [2, 0]):
            self.assert_moved(2, same, 2, numbers, 3, 2)

    def test_no_sets(self):
        parity = (0, (1, 0), ((0, 1), (1, 0)), (1,))
        self.assertEqual(moved(parity, 0, [], 1), (0, (1, 1, 0, 0), ((0, 1), (1, 0)), (1,)))
        self.assertEqual(moved(parity, 0, [], 2), (0, (1,) * 4 + (0,) * 4, ((0, 1), (1, 0)), (1,)))
        for given in (1, 2, 3):
            self.assert_moved(2, parity, 0, [], given, 2)

    def test_one_to_five_letters(self):
        for count in range(1, 6):
            for reader in some_readers(2 * count)[:8]:
                self.assert_moved(count, reader, 1, [1], 2, 1)

    def test_made_least(self):
        # All maps of three points into themselves; with a single letter only few of them are left.
        reader = composing(3, some_numbers(4, 8, 27), range(0, 27, 2))
        self.assertLess(len(moved(reader, 3, [0, 0, 0], 1)[2]), 27)


def some_by_trying(reader, row, sets, chosen):
    """Whether the reader accepts with some place alone in the last set."""
    return any(accepted(reader, with_sets(row, *chosen, [place])) for place in range(len(row)))


class SomeTest(MovesTest):
    def assert_some(self, count, reader, sets, longest):
        kept = copy.deepcopy(reader)
        found = some(reader, sets)
        self.assertEqual(reader, kept)
        self.assert_least(count * width(sets - 1), found)
        for row in rows_of(count, longest):
            for chosen in choices_of_sets(sets - 1, len(row)):
                expected = some_by_trying(reader, row, sets, chosen)
                self.assertIs(accepts(found, with_sets(row, *chosen)), expected, (row, chosen))

    def test_trying_each_place(self):
        for sets, count, longest in ((1, 1, 6), (1, 2, 5), (1, 3, 3), (2, 1, 4), (2, 2, 3), (3, 1, 3), (3, 2, 2)):
            tried = 0
            for reader in some_readers(count * width(sets)):
                if len(reader[2]) <= 6:
                    self.assert_some(count, reader, sets, longest)
                    tried += 1
            self.assertGreater(tried, 20)

    def test_empty_row(self):
        for sets in (1, 2, 3):
            everything = (0, (0,) * 2 * width(sets), ((0,),), (0,))
            self.assertFalse(accepts(some(everything, sets), []))
            self.assertTrue(accepts(some(everything, sets), [0]))

    def test_alone(self):
        # The reader counts the places in the set up to three; with two of them it would accept, with one it does not.
        mul = tuple(tuple(min(3, x + y) for y in range(4)) for x in range(4))
        counting = (0, (0, 1), mul, (2,))
        self.assertEqual(some(counting, 1), (0, (0,), ((0,),), ()))
        self.assertEqual(some((0, (0, 1), mul, (1,)), 1), (0, (1,), ((0, 1), (1, 1)), (1,)))

    def test_letter_somewhere(self):
        inner = reader_with(3, (("set", 0), ("letter", 2), ("and", 0, 1), ("not", 2), ("all", 3), ("denied", 4)), 1)
        self.assertEqual(some(inner, 1), (0, (0, 0, 1), ((0, 1), (1, 1)), (1,)))

    def test_place_between_two(self):
        between = reader_with(1, (("set", 0), ("set", 1), ("set", 2), ("next", 0, 2), ("next", 2, 1), ("both", 3, 4)), 3)
        found = some(between, 3)
        for row in rows_of(1, 6):
            for x, y in itertools.product(range(len(row)), repeat=2):
                expected = any(
                    (x + 1 == z or x == len(row) - 1) and (z + 1 == y or z == len(row) - 1) for z in range(len(row)))
                self.assertIs(accepts(found, marked(row, [[x], [y]])), expected)

    def test_too_many_pairs(self):
        # The same pairs of letters outside and inside of the last set: of two tape letters, or of one with a code.
        crowd = composing(3, [23, 9, 19, 17], [3])
        with self.assertRaises(TooManyValues):
            some(crowd, 1)
        with self.assertRaises(TooManyValues):
            some(composing(3, [23, 19, 9, 17], [3]), 2)
        self.assertLessEqual(len(some(composing(3, [23, 23, 19, 19], [3]), 1)[2]), 300)

    def test_the_number_of_pairs(self):
        # In a circle of `many` with an unmarked letter that goes on by one, and a marked one that stays, a word of n
        # letters has the value n and the set of n - 1, for n = 0 the empty set: many + 1 pairs.
        for many, raises in ((299, False), (300, True)):
            mul = tuple(tuple((x + y) % many for y in range(many)) for x in range(many))
            reader = (0, (1, 0), mul, (many - 1,))
            if raises:
                with self.assertRaises(TooManyValues):
                    some(reader, 1)
            else:
                found = some(reader, 1)
                # The reader is asked for a length that is a multiple of 299, but not 0.
                self.assertEqual(len(found[2]), 300)
                self.assertEqual([n for n in range(600) if accepts(found, [0] * n)], [299, 598])

    def test_pairs_are_counted_before_they_are_made_least(self):
        mul = tuple(tuple((x + y) % 300 for y in range(300)) for x in range(300))
        with self.assertRaises(TooManyValues):
            some((0, (1, 0), mul, tuple(range(300))), 1)
        self.assertEqual(some(least((0, (1, 0), mul, tuple(range(300)))), 1), (0, (1,), ((0, 1), (1, 1)), (1,)))


class IsLeftTest(MovesTest):
    def test_each_pair_of_sets(self):
        for count, sets, longest in ((1, 2, 4), (2, 2, 3), (1, 3, 3), (3, 2, 2), (2, 3, 2)):
            for first, second in itertools.permutations(range(sets), 2):
                found = is_left(count, first, second, sets)
                self.assert_least(count * width(sets), found)
                for row in rows_of(count, longest):
                    for chosen in choices_of_sets(sets, len(row)):
                        expected = (len(chosen[first]) == len(chosen[second]) == 1
                                    and chosen[first][0] < chosen[second][0])
                        self.assertIs(accepts(found, with_sets(row, *chosen)), expected, (row, chosen))

    def test_no_place_and_more_places(self):
        found = is_left(2, 0, 1, 2)
        row = [0, 1, 1, 0]
        for first, second in itertools.product(subsets(range(4)), subsets(range(4))):
            expected = len(first) == len(second) == 1 and first[0] < second[0]
            self.assertIs(accepts(found, with_sets(row, first, second)), expected)

    def test_other_sets_may_be_anything(self):
        for first, second in itertools.permutations(range(3), 2):
            found = is_left(1, first, second, 3)
            for other in subsets(range(3)):
                for x, y in itertools.product(range(3), repeat=2):
                    chosen = {first: [x], second: [y], 3 - first - second: other}
                    self.assertIs(accepts(found, with_sets([0] * 3, *[chosen[at] for at in range(3)])), x < y)

    def test_five_letters(self):
        self.assertEqual(is_left(5, 0, 1, 2)[1], is_left(1, 0, 1, 2)[1] * 5)
        self.assertEqual(is_left(5, 0, 1, 2)[2:], is_left(1, 0, 1, 2)[2:])

    def test_as_a_sentence_says(self):
        found = is_left(2, 0, 1, 2)
        single = reader_with(2, (("one", 0), ("one", 1), ("both", 0, 1)), 2)
        self.assertTrue(same_words(found, joint("both", single, reader_with(2, IS_LEFT, 2))))


if __name__ == "__main__":
    unittest.main()
