import unittest

from twoways.tapes import tape_of, word_of


class TapeTest(unittest.TestCase):
    def test_document_example(self):
        self.assertEqual(tape_of([0, 2]), [0, 2, 4, 1])
        self.assertEqual(word_of([0, 2, 4, 1]), [0, 2])

    def test_empty_word(self):
        self.assertEqual(tape_of([]), [0, 1])
        self.assertEqual(word_of([0, 1]), [])

    def test_single_letters(self):
        for letter in range(3):
            self.assertEqual(tape_of([letter]), [0, letter + 2, 1])
            self.assertEqual(word_of([0, letter + 2, 1]), [letter])

    def test_long_words(self):
        for length in (199, 200, 201, 5000):
            word = [place * place % 3 for place in range(length)]
            tape = tape_of(word)
            self.assertEqual(len(tape), length + 2)
            self.assertEqual((tape[0], tape[-1]), (0, 1))
            self.assertEqual(tape[1:-1], [letter + 2 for letter in word])
            self.assertEqual(word_of(tape), word)

    def test_one_after_the_other(self):
        words = [[]]
        for _ in range(5):
            words += [word + [letter] for word in words for letter in range(3)]
        for word in words:
            tape = tape_of(word)
            self.assertEqual(word_of(tape), word)
            self.assertEqual(tape_of(word_of(tape)), tape)

    def test_new_lists(self):
        for word in ([], [1], [0, 2]):
            first, second = tape_of(word), tape_of(word)
            self.assertIs(type(first), list)
            self.assertIsNot(first, word)
            self.assertIsNot(first, second)
            first.append(9)
            self.assertEqual(tape_of(word), second)
            tape = tape_of(word)
            found, again = word_of(tape), word_of(tape)
            self.assertIs(type(found), list)
            self.assertIsNot(found, tape)
            self.assertIsNot(found, again)
            found.append(9)
            self.assertEqual(word_of(tape), word)

    def test_arguments_stay(self):
        word = [2, 0, 1]
        tape_of(word)
        self.assertEqual(word, [2, 0, 1])
        tape = [0, 4, 2, 3, 1]
        word_of(tape)
        self.assertEqual(tape, [0, 4, 2, 3, 1])

    def test_defined_in_their_file(self):
        for function in (tape_of, word_of):
            self.assertEqual(function.__module__, "twoways.tapes")


if __name__ == "__main__":
    unittest.main()
