import copy
import itertools
import unittest

from examples import changed, changed_row, counting, keeping_first, keeping_last, table
from twoways.readers import accepts, fault, value

ODD = (0, (1,), ((0, 1), (1, 0)), (0,))


def first_fault(count, reader):
    """Point 9 again, condition by condition and value by value."""
    empty, letters, mul, accepted = reader
    values = range(len(mul))
    if not 1 <= len(mul) <= 300:
        return ("values",)
    if empty not in values:
        return ("empty",)
    if len(letters) != count or any(letter not in values for letter in letters):
        return ("letters",)
    for x in values:
        if len(mul[x]) != len(mul) or any(member not in values for member in mul[x]):
            return ("mul", x)
    if list(accepted) != sorted(set(accepted)) or any(x not in values for x in accepted):
        return ("accepted",)
    for x in values:
        if mul[empty][x] != x or mul[x][empty] != x:
            return ("unit", x)
    for x, y, z in itertools.product(values, repeat=3):
        if mul[mul[x][y]][z] != mul[x][mul[y][z]]:
            return ("order", x, y, z)
    return None


class FaultTest(unittest.TestCase):
    def assert_fault(self, count, reader, expected):
        self.assertEqual(first_fault(count, reader), expected)
        self.assertEqual(fault(count, reader), expected)

    def test_readers_that_fit(self):
        self.assert_fault(1, ODD, None)
        for count in (1, 2, 3, 5, 40):
            for many in range(1, 9):
                self.assert_fault(count, counting(count, many), None)
        last = (0, (1, 2, 0), keeping_last(3), (0, 2))
        self.assert_fault(3, last, None)
        # A unit that is not the value 0.
        self.assert_fault(2, (2, (0, 1), table(3, min), (0, 1, 2)), None)
        self.assert_fault(1, (0, (0,), ((0,),), ()), None)
        self.assert_fault(1, (0, (0,), ((0,),), (0,)), None)

    def test_values(self):
        self.assert_fault(1, (0, (0,), (), ()), ("values",))
        self.assert_fault(1, (0, (), (), ()), ("values",))
        self.assert_fault(2, (-1, (), (), (5, 5)), ("values",))

    def test_values_300_and_301(self):
        self.assertIsNone(fault(2, (0, (1, 299), keeping_first(300), (0, 299))))
        self.assertEqual(fault(2, (0, (1, 299), keeping_first(301), ())), ("values",))
        self.assertEqual(fault(1, (0, (0,), ((),) * 300, ())), ("mul", 0))
        self.assertEqual(fault(1, (0, (0,), ((),) * 301, ())), ("values",))

    def test_order_far_behind_in_300_rows(self):
        mul = changed_row(keeping_first(300), 299, 299, 1)
        self.assertEqual(fault(1, (0, (299,), mul, ())), ("order", 299, 1, 299))

    def test_empty(self):
        for empty in (-1, -3, 3, 4, 10 ** 20):
            self.assert_fault(2, changed(counting(2, 3), 0, empty), ("empty",))
        self.assert_fault(2, (2, (0, 1), table(3, min), ()), None)

    def test_letters(self):
        for letters in ((), (1,), (1, 1, 1), (-1, 0), (0, -1), (3, 0), (0, 3), (0, 10 ** 20)):
            self.assert_fault(2, changed(counting(2, 3), 1, letters), ("letters",))
        self.assert_fault(2, changed(counting(2, 3), 1, (2, 2)), None)
        self.assert_fault(1, counting(2, 3), ("letters",))
        self.assert_fault(3, counting(2, 3), ("letters",))
        self.assert_fault(40, counting(39, 2), ("letters",))
        self.assert_fault(40, counting(41, 2), ("letters",))

    def test_mul(self):
        good = counting(2, 3)
        rows = good[2]
        for x in range(3):
            for row in ((), rows[x][:2], rows[x] + (0,)):
                self.assert_fault(2, changed(good, 2, changed(rows, x, row)), ("mul", x))
            for y in range(3):
                for member in (-1, -3, 3, 10 ** 20):
                    mul = changed_row(rows, x, y, member)
                    self.assert_fault(2, changed(good, 2, mul), ("mul", x))

    def test_mul_lowest_row(self):
        rows = counting(2, 4)[2]
        mul = changed(changed_row(rows, 1, 3, 4), 2, ())
        self.assert_fault(2, changed(counting(2, 4), 2, mul), ("mul", 1))
        mul = changed(changed_row(rows, 2, 0, 4), 1, (0,) * 5)
        self.assert_fault(2, changed(counting(2, 4), 2, mul), ("mul", 1))

    def test_accepted(self):
        good = counting(2, 3)
        wrong = ((-1,), (3,), (0, 3), (-1, 0), (0, 0), (1, 0), (0, 2, 1), (0, 1, 1, 2), (0, 1, 2, 3))
        for accepted in wrong:
            self.assert_fault(2, changed(good, 3, accepted), ("accepted",))
        for accepted in ((), (0,), (2,), (0, 2), (0, 1, 2)):
            self.assert_fault(2, changed(good, 3, accepted), None)

    def test_unit(self):
        good = (0, (1,), keeping_last(4), ())
        for x in range(1, 4):
            for at in ((0, x), (x, 0)):
                mul = changed_row(good[2], at[0], at[1], (x + 1) % 4)
                self.assert_fault(1, changed(good, 2, mul), ("unit", x))
        self.assert_fault(1, changed(good, 2, changed_row(good[2], 0, 0, 1)), ("unit", 0))
        self.assert_fault(1, changed(good, 0, 1), ("unit", 0))

    def test_unit_lowest_value(self):
        rows = keeping_last(4)
        left_later = changed_row(changed_row(rows, 0, 3, 1), 2, 0, 1)
        right_later = changed_row(changed_row(rows, 0, 2, 1), 3, 0, 1)
        for mul in (left_later, right_later):
            self.assert_fault(1, (0, (1,), mul, ()), ("unit", 2))

    def test_order(self):
        rows = keeping_first(4)
        self.assert_fault(1, (0, (1,), changed_row(rows, 1, 1, 2), ()), ("order", 1, 1, 1))
        self.assert_fault(1, (0, (1,), changed_row(rows, 1, 3, 2), ()), ("order", 1, 1, 3))
        self.assert_fault(1, (0, (1,), changed_row(rows, 1, 2, 0), ()), ("order", 1, 1, 2))
        self.assert_fault(1, (0, (1,), changed_row(rows, 3, 3, 1), ()), ("order", 3, 1, 3))
        self.assert_fault(1, (0, (1,), changed_row(keeping_last(4), 2, 1, 3), ()), ("order", 2, 1, 1))
        # The unit is the last value here, so the value 0 counts.
        mul = ((3, 3, 3, 0), (3, 3, 0, 1), (3, 1, 3, 2), (0, 1, 2, 3))
        self.assert_fault(1, (3, (1,), mul, ()), ("order", 0, 0, 1))

    def test_each_condition_comes_before_the_later_ones(self):
        rows = keeping_first(4)
        wrong = [
            ("empty", 0, 9), ("letters", 1, ()), ("mul", 2, changed(rows, 2, ())),
            ("accepted", 3, (3, 1)), ("unit", 2, changed_row(rows, 0, 2, 1)),
            ("order", 2, changed_row(rows, 1, 1, 2)),
        ]
        for early, late in itertools.combinations(wrong, 2):
            reader = changed((0, (1,), rows, ()), late[1], late[2])
            self.assertEqual(fault(1, reader)[0], late[0])
            if early[1] == late[1]:
                continue
            self.assertEqual(fault(1, changed(reader, early[1], early[2]))[0], early[0])
        broken = changed_row(changed_row(rows, 1, 1, 2), 3, 0, 1)
        self.assert_fault(1, (0, (1,), broken, ()), ("unit", 3))
        self.assert_fault(1, (0, (1,), changed(broken, 3, (0,)), ()), ("mul", 3))
        self.assert_fault(0, (9, (), (), (1, 0)), ("values",))

    def test_every_small_reader(self):
        members = (-1, 0, 1, 2)
        tuples = [row for size in range(3) for row in itertools.product(members, repeat=size)]
        for row in tuples:
            for empty, second in itertools.product(members, tuples):
                self.assert_same(1, (empty, (0,), (row, second), (1,)))
            for empty in members:
                self.assert_same(1, (empty, row, ((0, 1), (1, 0)), row))
        for free in itertools.product(range(3), repeat=4):
            mul = ((0, 1, 2), (1,) + free[:2], (2,) + free[2:])
            self.assert_same(2, (0, (1, 2), mul, (0,)))
            other = (free[:2] + (0,), free[2:] + (1,), (0, 1, 2))
            self.assert_same(2, (2, (1, 0), other, (0,)))

    def assert_same(self, count, reader):
        self.assertEqual(fault(count, reader), first_fault(count, reader), (count, reader))

    def test_what_is_no_reader_raises_nothing(self):
        self.assertEqual(fault(1, ()), ("values",))
        self.assertEqual(fault(1, ODD[:3]), ("values",))
        self.assertEqual(fault(1, ODD + (0,)), ("values",))


class ValueTest(unittest.TestCase):
    def test_document_example(self):
        self.assertEqual(value(ODD, [0, 0, 0]), 1)

    def test_empty_word(self):
        self.assertEqual(value(ODD, []), 0)
        self.assertEqual(value((2, (0, 1), table(3, min), ()), []), 2)

    def test_single_letters(self):
        reader = (0, (2, 1, 0, 1), keeping_last(3), ())
        self.assertEqual([value(reader, [letter]) for letter in range(4)], [2, 1, 0, 1])

    def test_letters_count_in_the_order_of_the_word(self):
        first = (0, (1, 2), keeping_first(3), ())
        last = (0, (1, 2), keeping_last(3), ())
        for size in range(1, 6):
            for word in itertools.product(range(2), repeat=size):
                self.assertEqual(value(first, list(word)), word[0] + 1)
                self.assertEqual(value(last, list(word)), word[-1] + 1)

    def test_parts_of_a_word(self):
        # The compositions of the four functions from two states to two states.
        maps = ((0, 1), (1, 0), (0, 0), (1, 1))
        mul = table(4, lambda x, y: maps.index(tuple(maps[y][at] for at in maps[x])))
        reader = (0, (1, 2), mul, ())
        self.assertIsNone(fault(2, reader))
        for word in itertools.product(range(2), repeat=6):
            whole = value(reader, list(word))
            for at in range(7):
                left, right = value(reader, list(word[:at])), value(reader, list(word[at:]))
                self.assertEqual(mul[left][right], whole)

    def test_long_words(self):
        word = [place * 7 % 5 for place in range(20000)]
        self.assertEqual(value(counting(5, 97), word), sum(word) % 97)

    def test_accepts(self):
        for accepted in ((), (0,), (1,), (0, 1)):
            reader = changed(ODD, 3, accepted)
            for length in range(5):
                self.assertIs(accepts(reader, [0] * length), length % 2 in accepted)
        thirds = changed(counting(1, 3), 1, (1,))
        thirds = changed(thirds, 3, (0, 2))
        self.assertIs(accepts(thirds, [0] * 10001), True)
        self.assertIs(accepts(thirds, [0] * 10000), False)

    def test_arguments_stay(self):
        word = [0, 0]
        kept = copy.deepcopy(ODD)
        value(ODD, word)
        accepts(ODD, word)
        self.assertEqual((word, ODD), ([0, 0], kept))

    def test_defined_in_their_file(self):
        for function in (fault, value, accepts):
            self.assertEqual(function.__module__, "twoways.readers")


if __name__ == "__main__":
    unittest.main()
