import copy
import itertools
import unittest

from document import (
    least_reader,
    listed_values,
    numbered_reader,
    told_apart,
)
from examples import changed, composing, counting, keeping_first, keeping_last, some_readers, table
from twoways.errors import TooManyValues
from twoways.readers import accepts, fault, value
from twoways.values import denied, joint, least, numbered, same_words, shortest, values

ODD = (0, (1,), ((0, 1), (1, 0)), (1,))
KINDS = {"both": lambda x, y: x and y, "either": lambda x, y: x or y, "one": lambda x, y: x != y}


def words(count, longest):
    for length in range(longest + 1):
        for word in itertools.product(range(count), repeat=length):
            yield list(word)


def every_small_reader():
    """All readers of one and two letters with up to three values that fit."""
    for many in (1, 2, 3):
        for empty in range(many):
            for entries in itertools.product(range(many), repeat=many * many):
                mul = table(many, lambda x, y: entries[x * many + y])
                if fault(1, (empty, (0,), mul, ())) is not None:
                    continue
                for letters in itertools.product(range(many), repeat=2):
                    for size in range(many + 1):
                        for accepted in itertools.combinations(range(many), size):
                            yield (empty, letters, mul, accepted)


def lengths_of(many, length):
    """The reader of one letter that tells lengths below `many`, and from there on counts in a circle of `length`."""
    def product(x, y):
        total = x + y
        return total if total < many else many - length + (total - many) % length
    return (0, (1,), table(many, product), ())


class ValuesTest(unittest.TestCase):
    def test_order_of_the_list(self):
        # The letters in their order, then the products of a round, of what stood in the list when it began.
        reader = (0, (3, 5), counting(1, 8)[2], ())
        self.assertEqual(values(reader, 8), [0, 3, 5, 6, 2, 1, 7, 4])
        self.assertEqual(values((0, (5, 3), counting(1, 8)[2], ()), 8), [0, 5, 3, 2, 6, 7, 1, 4])
        # One letter: lengths 0, 1; then up to 2; up to 4; up to 8.
        self.assertEqual(values(counting(2, 9), 9), [0, 1, 2, 3, 4, 5, 6, 7, 8])
        self.assertEqual(values((0, (7,), counting(1, 9)[2], ()), 9), [0, 7, 5, 3, 1, 8, 6, 4, 2])

    def test_rows_before_columns(self):
        # Words of two letters, told apart: the products a a, a b, b a, b b stand in this order.
        pairs = [()] + [(a,) for a in "ab"] + [(a, b) for a in "ab" for b in "ab"] + [None]

        def product(x, y):
            both = None if None in (pairs[x], pairs[y]) else pairs[x] + pairs[y]
            return pairs.index(both) if both in pairs else len(pairs) - 1

        mul = table(len(pairs), product)
        self.assertEqual(values((0, (1, 2), mul, ()), 99), [0, 1, 2, 3, 4, 5, 6, 7])
        self.assertEqual(values((0, (2, 1), mul, ()), 99), [0, 2, 1, 6, 5, 4, 3, 7])

    def test_the_empty_value_need_not_be_first(self):
        self.assertEqual(values((2, (0, 1), table(3, min), ()), 3), [2, 0, 1])
        self.assertEqual(values((2, (1, 1), table(3, min), ()), 3), [2, 1])

    def test_letters_that_stand_already(self):
        self.assertEqual(values((1, (1, 1, 0, 1, 0), ((0, 0), (0, 1)), ()), 2), [1, 0])
        self.assertEqual(values((0, (0,), ((0,),), (0,)), 1), [0])

    def test_values_that_words_do_not_have(self):
        self.assertEqual(values((0, (4,), counting(1, 6)[2], ()), 6), [0, 4, 2])
        self.assertEqual(values((0, (4,), counting(1, 6)[2], ()), 3), [0, 4, 2])
        self.assertIsNone(values((0, (4,), counting(1, 6)[2], ()), 2))

    def test_limits(self):
        for reader in some_readers(3):
            many = len(listed_values(reader, 300))
            for most in range(1, many + 3):
                self.assertEqual(values(reader, most), listed_values(reader, most))
                self.assertEqual(values(reader, most) is None, most < many)

    def test_limit_after_the_letters(self):
        reader = (0, (1, 2, 3), keeping_first(4), ())
        self.assertIsNone(values(reader, 3))
        self.assertEqual(values(reader, 4), [0, 1, 2, 3])
        self.assertIsNone(values((0, (1,), keeping_first(4), ()), 1))
        self.assertEqual(values((0, (0, 0), keeping_first(4), ()), 1), [0])

    def test_limit_behind_each_round(self):
        reader = (0, (1,), counting(1, 100)[2], ())
        for most in (1, 2, 3, 4, 5, 8, 9, 16, 17, 64, 65, 99):
            self.assertIsNone(values(reader, most))
        self.assertEqual(values(reader, 100), list(range(100)))

    def test_300_values(self):
        self.assertEqual(values(counting(2, 300), 300), list(range(300)))
        self.assertIsNone(values(counting(2, 300), 299))

    def test_against_the_document(self):
        for count in (1, 2, 3, 5, 24):
            for reader in some_readers(count):
                self.assertEqual(values(reader, 300), listed_values(reader, 300))

    def test_new_lists(self):
        first, second = values(ODD, 2), values(ODD, 2)
        self.assertIs(type(first), list)
        first.append(9)
        self.assertEqual(second, [0, 1])


class NumberedTest(unittest.TestCase):
    def test_positions_of_values(self):
        reader = (2, (0, 1), table(3, min), (0, 2))
        self.assertEqual(numbered(reader), (0, (1, 2), ((0, 1, 2), (1, 1, 1), (2, 1, 2)), (0, 1)))

    def test_left_out_values(self):
        reader = (0, (4,), counting(1, 6)[2], (1, 2, 5))
        self.assertEqual(numbered(reader), (0, (1,), ((0, 1, 2), (1, 2, 0), (2, 0, 1)), (2,)))
        self.assertEqual(numbered(changed(reader, 3, (1, 3, 5)))[3], ())

    def test_accepted_values_ascend(self):
        reader = (0, (7,), counting(1, 9)[2], (1, 2, 7, 8))
        self.assertEqual(numbered(reader)[3], (1, 4, 5, 8))

    def test_fits_and_gives_positions(self):
        for count in (1, 2, 3):
            for reader in some_readers(count):
                made = numbered(reader)
                found = values(reader, 300)
                self.assertIsNone(fault(count, made))
                self.assertEqual(made, numbered_reader(reader))
                self.assertEqual(numbered(made), made)
                for word in words(count, 4):
                    self.assertEqual(value(made, word), found.index(value(reader, word)))
                    self.assertIs(accepts(made, word), accepts(reader, word))

    def test_kinds(self):
        made = numbered(composing(2, (1, 2), (0,)))
        self.assertIs(type(made), tuple)
        self.assertTrue(all(type(part) is tuple for part in (*made[1:], *made[2])))

    def test_300_values(self):
        reader = counting(2, 300)
        self.assertEqual(numbered(reader), reader)

    def test_more_values_than_a_reader_may_have(self):
        self.assertEqual(len(numbered(counting(2, 310))[2]), 310)


class DeniedTest(unittest.TestCase):
    def test_other_values(self):
        for accepted in ((), (0,), (1,), (0, 1)):
            others = tuple(x for x in (0, 1) if x not in accepted)
            self.assertEqual(denied(changed(ODD, 3, accepted)), changed(ODD, 3, others))

    def test_values_that_words_do_not_have(self):
        reader = (0, (4,), counting(1, 6)[2], (1, 2))
        self.assertEqual(denied(reader), changed(reader, 3, (0, 3, 4, 5)))

    def test_denied_twice(self):
        for reader in some_readers(2):
            self.assertEqual(denied(denied(reader)), reader)
            self.assertIsNone(fault(2, denied(reader)))
            for word in words(2, 4):
                self.assertIs(accepts(denied(reader), word), not accepts(reader, word))


class JointTest(unittest.TestCase):
    def test_each_kind(self):
        twos = changed(counting(1, 2), 1, (1,))[:3] + ((0,),)
        threes = (0, (1,), counting(1, 3)[2], (0, 2))
        # The lengths 0 to 5 have the values 0 to 5.
        self.assertEqual(joint("both", twos, threes), (0, (1,), counting(1, 6)[2], (0, 2)))
        self.assertEqual(joint("either", twos, threes), (0, (1,), counting(1, 6)[2], (0, 2, 3, 4, 5)))
        self.assertEqual(joint("one", twos, threes), (0, (1,), counting(1, 6)[2], (3, 4, 5)))

    def test_accepts_by_kind(self):
        readers = some_readers(2)
        for at, first in enumerate(readers):
            second = readers[(at * 7 + 3) % len(readers)]
            for kind, rule in KINDS.items():
                made = joint(kind, first, second)
                self.assertIsNone(fault(2, made))
                self.assertEqual(numbered(made), made)
                for word in words(2, 4):
                    self.assertIs(accepts(made, word), rule(accepts(first, word), accepts(second, word)))

    def test_pairs_are_numbered(self):
        for first, second in ((composing(2, (1, 3), (0,)), counting(2, 3)), (counting(2, 3), composing(2, (2, 2), ()))):
            many = len(second[2])
            pairs = [(x, y) for x in range(len(first[2])) for y in range(many)]
            mul = table(len(pairs), lambda x, y: pairs.index(
                (first[2][pairs[x][0]][pairs[y][0]], second[2][pairs[x][1]][pairs[y][1]])))
            letters = tuple(pairs.index(pair) for pair in zip(first[1], second[1]))
            accepted = tuple(x for x, pair in enumerate(pairs) if pair[0] in first[3] or pair[1] in second[3])
            plain = (pairs.index((first[0], second[0])), letters, mul, accepted)
            self.assertEqual(joint("either", first, second), numbered_reader(plain))

    def test_it_is_not_made_least(self):
        self.assertEqual(len(joint("both", ODD, ODD)[2]), 2)
        same = changed(ODD, 3, (0, 1))
        self.assertEqual(joint("both", same, same), (0, (1,), ((0, 1), (1, 0)), (0, 1)))

    def test_too_many_pairs(self):
        def circle(many):
            return (0, (1 % many,), counting(1, many)[2], (0,))

        for first, second in ((17, 19), (19, 17), (7, 43), (300, 7), (299, 300)):
            for kind in KINDS:
                with self.assertRaises(TooManyValues):
                    joint(kind, circle(first), circle(second))
        for first, second in ((17, 16), (16, 17), (12, 25), (300, 1), (1, 300), (300, 300), (150, 100)):
            for kind in KINDS:
                made = joint(kind, circle(first), circle(second))
                self.assertLessEqual(len(made[2]), 300)
                self.assertEqual(value(made, [0] * len(made[2])), 0)

    def test_pairs_that_words_do_not_have_do_not_count(self):
        reader = (0, (0, 50), counting(1, 100)[2], (0,))
        self.assertEqual(len(joint("both", reader, reader)[2]), 2)


class LeastTest(unittest.TestCase):
    def test_doubled_values(self):
        doubled = (0, (1,), counting(1, 6)[2], (1, 3, 5))
        self.assertEqual(least(doubled), ODD)

    def test_nothing_and_all(self):
        for reader in some_readers(3):
            everything = tuple(range(len(reader[2])))
            self.assertEqual(least(changed(reader, 3, ())), (0, (0, 0, 0), ((0,),), ()))
            self.assertEqual(least(changed(reader, 3, everything)), (0, (0, 0, 0), ((0,),), (0,)))

    def test_told_apart_only_by_a_joining_in_front(self):
        # Behind another letter, a word of the letter 1 is not what the empty word is.
        reader = (0, (1, 2), keeping_last(3), (1,))
        self.assertEqual(self.same_rows(reader), [(0, 2)])
        self.assertEqual(least(reader), reader)

    def test_told_apart_only_by_a_joining_behind(self):
        # In front of another letter, a word of the letter 1 is not what the empty word is.
        reader = (0, (1, 2), keeping_first(3), (1,))
        self.assertEqual(self.same_rows(changed(reader, 2, tuple(zip(*reader[2])))), [(0, 2)])
        self.assertEqual(least(reader), reader)

    def same_rows(self, reader):
        """The pairs of values that no joining behind them tells apart."""
        _, _, mul, accepted = reader
        rows = [[member in accepted for member in row] for row in mul]
        return [(x, y) for x, y in itertools.combinations(range(len(mul)), 2) if rows[x] == rows[y]]

    def test_all_maps(self):
        for letters in itertools.product(range(4), repeat=2):
            for accepted in ((0,), (1,), (2,), (3,), (0, 1), (0, 3), (1, 2, 3)):
                reader = composing(2, letters, accepted)
                self.assertEqual(least(reader), least_reader(reader))

    def test_against_the_document(self):
        for count in (1, 2, 3):
            for reader in some_readers(count):
                self.assertEqual(least(reader), least_reader(reader))

    def test_every_small_reader(self):
        for reader in every_small_reader():
            self.assertEqual(least(reader), least_reader(reader), reader)

    def test_least_of_least(self):
        for count in (1, 2, 8):
            for reader in some_readers(count):
                made = least(reader)
                self.assertIsNone(fault(count, made))
                self.assertEqual(least(made), made)
                self.assertEqual(numbered(made), made)
                apart = told_apart(made)
                self.assertEqual(len(apart), len(made[2]) * (len(made[2]) - 1))

    def test_accepts_the_same_words(self):
        for reader in some_readers(2):
            made = least(reader)
            for word in words(2, 6):
                self.assertIs(accepts(made, word), accepts(reader, word))

    def test_long_ways_to_tell_values_apart(self):
        for many in (50, 299, 300):
            reader = changed(lengths_of(many, 1), 3, (many - 1,))
            self.assertEqual(least(reader), reader)
            self.assertEqual(least(changed(reader, 3, (0,)))[2], table(2, max))

    def test_300_values(self):
        circle = (0, (1, 7, 0), counting(1, 300)[2], tuple(range(0, 300, 12)))
        self.assertEqual(least(circle), least((0, (1, 7, 0), counting(1, 12)[2], (0,))))
        self.assertEqual(len(least(circle)[2]), 12)


class SameWordsTest(unittest.TestCase):
    def test_same(self):
        doubled = (0, (1,), counting(1, 6)[2], (1, 3, 5))
        self.assertIs(same_words(doubled, ODD), True)
        self.assertIs(same_words(ODD, doubled), True)
        self.assertIs(same_words(ODD, ODD), True)

    def test_different(self):
        self.assertIs(same_words(ODD, denied(ODD)), False)
        self.assertIs(same_words(ODD, changed(ODD, 3, ())), False)
        self.assertIs(same_words(counting(1, 3), changed(counting(1, 3), 3, (0,))), False)
        # They differ in the words of 299 letters alone.
        long = lengths_of(300, 1)
        self.assertIs(same_words(changed(long, 3, (0, 299)), changed(long, 3, (0,))), False)

    def test_only_the_letters_differ(self):
        first = (0, (1, 2), keeping_first(3), (1,))
        second = (0, (2, 1), keeping_first(3), (1,))
        self.assertIs(same_words(first, second), False)
        self.assertIs(same_words(first, changed(second, 3, (2,))), True)

    def test_by_words(self):
        readers = [reader for reader in some_readers(2) if len(reader[2]) <= 4]
        told = [[accepts(reader, word) for word in words(2, 7)] for reader in readers]
        for first, first_told in zip(readers, told):
            for second, second_told in zip(readers, told):
                self.assertIs(same_words(first, second), first_told == second_told)

    def test_denied_both_and_either(self):
        readers = [reader for reader in some_readers(2) if len(reader[2]) <= 6]
        for first, second in zip(readers, readers[1:]):
            denial = denied(joint("both", first, second))
            self.assertIs(same_words(denial, joint("either", denied(first), denied(second))), True)
            one = joint("one", first, second)
            self.assertIs(same_words(joint("one", one, second), first), True)


def shortest_by_trying(count, reader):
    """The shortest word by point 12, with least lengths and words found among all words."""
    reader = numbered_reader(reader)
    _, letters, mul, accepted = reader
    lengths, word_of = {}, {0: []}
    for word in words(count, len(mul) if count == 1 else 6):
        lengths.setdefault(value(reader, word), len(word))
    assert len(lengths) == len(mul)
    for worth in sorted(lengths, key=lengths.get):
        for a, y in itertools.product(range(count), range(len(mul))):
            if worth not in word_of and mul[letters[a]][y] == worth and lengths[worth] == lengths[y] + 1:
                word_of[worth] = [a] + word_of[y]
    if not accepted:
        return None
    return word_of[min(accepted, key=lambda x: (lengths[x], x))]


class ShortestTest(unittest.TestCase):
    def test_document_example(self):
        self.assertEqual(shortest((0, (1,), ((0, 1), (1, 0)), (1,))), [0])

    def test_none(self):
        self.assertIsNone(shortest(changed(ODD, 3, ())))
        # A value that no word has.
        self.assertIsNone(shortest((0, (4,), counting(1, 6)[2], (1, 3, 5))))

    def test_empty_word(self):
        self.assertEqual(shortest(changed(ODD, 3, (0,))), [])
        self.assertEqual(shortest(changed(ODD, 3, (0, 1))), [])
        self.assertEqual(shortest((2, (0, 1), table(3, min), (0, 1, 2))), [])

    def test_several_values_of_the_same_least_length(self):
        # The lowest value of the numbered reader counts, not that of the reader.
        self.assertEqual(shortest((0, (2, 1), keeping_first(3), (1, 2))), [0])
        self.assertEqual(shortest((0, (1, 2), keeping_first(3), (1, 2))), [0])
        self.assertEqual(shortest((0, (1, 2), keeping_first(3), (2,))), [1])
        sums = (0, (3, 5), counting(1, 8)[2], (2, 1))
        self.assertEqual(shortest((*sums[:3], (1, 2))), [1, 1])
        self.assertEqual(shortest((*sums[:3], (1, 2, 6))), [0, 0])

    def test_lowest_letter_then_lowest_value(self):
        # The letters 1 and 2 have the same value.
        self.assertEqual(shortest((0, (0, 1, 1), ((0, 1), (1, 0)), (1,))), [1])
        self.assertEqual(shortest((0, (1, 1), counting(1, 7)[2], (5,))), [0] * 5)
        # 6 is 1 + 5 and 2 + 4 and 4 + 2 and 5 + 1, and the letters stand for 5, 1, 2, 4.
        self.assertEqual(shortest((0, (5, 1, 2, 4), counting(1, 30)[2], (6,))), [0, 1])
        # 8 is 1 + 7 with 7 being 5 + 2 or 2 + 5 or 4 + 3 ..: only values one shorter count.
        self.assertEqual(shortest((0, (1, 2, 4, 5), counting(1, 30)[2], (8,))), [2, 2])

    def test_several_values_behind_the_same_letter(self):
        # Products of two letters that all give the last value: the lowest second value counts.
        def product(x, y):
            return x or y if 0 in (x, y) else 4
        reader = (0, (3, 2, 1), table(5, product), (4,))
        self.assertEqual(shortest(reader), [0, 0])

        def narrow(x, y):
            # Only what the letter with the value 1 begins, followed by another letter, gives 4; else 5.
            return x or y if 0 in (x, y) else 4 if x == 1 and y in (2, 3) else 5
        for letters, expected in (((1, 2, 3), [0, 1]), ((3, 2, 1), [2, 0]), ((2, 1, 3), [1, 0]), ((2, 3, 1), [2, 0])):
            reader = (0, letters, table(6, narrow), (4,))
            self.assertIsNone(fault(3, reader))
            self.assertEqual(shortest(reader), expected)

    def test_against_the_document(self):
        for count in (1, 2, 3):
            for reader in some_readers(count):
                if len(values(reader, 300)) > 9:
                    continue
                for size in (1, 2):
                    for accepted in itertools.combinations(range(len(reader[2])), size):
                        reader = changed(reader, 3, accepted)
                        self.assertEqual(shortest(reader), shortest_by_trying(count, reader))

    def test_no_shorter_word(self):
        for count in (2, 3):
            for reader in some_readers(count):
                found = shortest(reader)
                for word in words(count, 6 if found is None else len(found) - 1):
                    self.assertIs(accepts(reader, word), False)
                if found is not None:
                    self.assertIs(accepts(reader, found), True)

    def test_long_word(self):
        self.assertEqual(shortest((0, (1, 1), counting(1, 300)[2], (299,))), [0] * 299)
        self.assertEqual(shortest((0, (0,) * 39 + (1,), counting(1, 300)[2], (299,))), [39] * 299)

    def test_new_lists(self):
        first = shortest(ODD)
        self.assertIs(type(first), list)
        first.append(9)
        self.assertEqual(shortest(ODD), [0])


class OwnFileTest(unittest.TestCase):
    def test_defined_in_their_file(self):
        for function in (values, numbered, denied, joint, least, same_words, shortest):
            self.assertEqual(function.__module__, "twoways.values")

    def test_arguments_stay(self):
        for reader in some_readers(2):
            kept = copy.deepcopy(reader)
            values(reader, 300), numbered(reader), denied(reader), joint("one", reader, ODD[:1] + ((1, 0),) + ODD[2:])
            least(reader), same_words(reader, reader), shortest(reader)
            self.assertEqual(reader, kept)


if __name__ == "__main__":
    unittest.main()
