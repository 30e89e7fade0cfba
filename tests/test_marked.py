import copy
import itertools
import unittest

from twoways.marked import marked, width


def subsets(length):
    places = range(length)
    return [list(chosen) for size in range(length + 1) for chosen in itertools.combinations(places, size)]


class WidthTest(unittest.TestCase):
    def test_numbers_of_sets(self):
        self.assertEqual([width(sets) for sets in range(4)], [1, 2, 4, 8])


class MarkedTest(unittest.TestCase):
    def test_document_example(self):
        self.assertEqual(marked([0, 2, 1], [[1], [0, 1]]), [2, 11, 4])

    def test_no_sets(self):
        for row in ([], [0], [2, 0, 1], [4] * 300):
            self.assertEqual(marked(row, []), row)

    def test_one_set(self):
        self.assertEqual(marked([0, 1, 2], [[]]), [0, 2, 4])
        self.assertEqual(marked([0, 1, 2], [[0]]), [1, 2, 4])
        self.assertEqual(marked([0, 1, 2], [[0, 2]]), [1, 2, 5])
        self.assertEqual(marked([0, 1, 2], [[0, 1, 2]]), [1, 3, 5])

    def test_each_set_has_its_own_part_of_the_code(self):
        self.assertEqual(marked([0], [[0], []]), [1])
        self.assertEqual(marked([0], [[], [0]]), [2])
        self.assertEqual(marked([0], [[0], [], []]), [1])
        self.assertEqual(marked([0], [[], [0], []]), [2])
        self.assertEqual(marked([0], [[], [], [0]]), [4])
        self.assertEqual(marked([3], [[0], [0], [0]]), [31])
        self.assertEqual(marked([3], [[], [], []]), [24])

    def test_sets_that_overlap(self):
        self.assertEqual(marked([0, 0, 0, 1], [[0, 1], [1, 2], [1, 3]]), [1, 7, 2, 12])
        self.assertEqual(marked([1, 1], [[0, 1], [0, 1]]), [7, 7])

    def test_empty_sets_widen_the_letters(self):
        self.assertEqual(marked([1, 2], [[], []]), [4, 8])

    def test_empty_row(self):
        for sets in range(4):
            self.assertEqual(marked([], [[]] * sets), [])

    def test_tapes(self):
        self.assertEqual(marked([0, 2, 4, 1], [[3], [0]]), [2, 8, 16, 5])

    def test_all_sets(self):
        for length in range(4):
            for many in range(4):
                for sets in itertools.product(subsets(length), repeat=many):
                    row = [place * 2 + 1 for place in range(length)]
                    found = marked(row, list(sets))
                    self.assertEqual([letter // width(many) for letter in found], row)
                    for number in range(many):
                        places = [at for at, letter in enumerate(found) if letter // 2 ** number % 2]
                        self.assertEqual(places, sets[number])

    def test_long_rows(self):
        row = [place % 5 for place in range(20000)]
        evens, thirds = list(range(0, 20000, 2)), list(range(0, 20000, 3))
        found = marked(row, [evens, thirds])
        self.assertEqual(found, [place % 5 * 4 + (place % 2 == 0) + 2 * (place % 3 == 0) for place in range(20000)])

    def test_new_lists(self):
        row = [1, 2]
        for sets in ([], [[]], [[0], [1]]):
            first, second = marked(row, sets), marked(row, sets)
            self.assertIs(type(first), list)
            self.assertIsNot(first, row)
            first.append(9)
            self.assertEqual(marked(row, sets), second)
        self.assertEqual(row, [1, 2])

    def test_arguments_stay(self):
        row, sets = [1, 0, 2], [[0, 2], [], [1]]
        kept = copy.deepcopy((row, sets))
        marked(row, sets)
        self.assertEqual((row, sets), kept)

    def test_same_list_twice(self):
        places = [1]
        self.assertEqual(marked([0, 0], [places, places]), [0, 3])

    def test_defined_in_their_file(self):
        for function in (width, marked):
            self.assertEqual(function.__module__, "twoways.marked")


if __name__ == "__main__":
    unittest.main()
