import copy
import itertools
import unittest

from document import line_reader, sentence_says
from sentence_examples import (
    MANY_COLOURINGS, PLACE_PARTS, TOO_MANY_COLOURINGS, choices_of_sets, rows_of, some_sentences, there_are,
    with_each_row_line,
)
from twoways.errors import TooManyValues
from twoways.marked import marked, width
from twoways.meaning import depth_of, holds, is_valid, size_of
from twoways.readers import accepts, fault
from twoways.sentences import made_plan, reader_with, sentence_reader
from twoways.values import denied, least

# The readers of one letter that accept nothing, all, the empty word, and all other words.
NOTHING = (0, (0,), ((0,),), ())
ALL = (0, (0,), ((0,),), (0,))
EMPTY = (0, (1,), ((0, 1), (1, 1)), (0,))
NOT_EMPTY = (0, (1,), ((0, 1), (1, 1)), (1,))


def seen(many):
    """The sentence that so many of 10 marked letters stand somewhere, of 5 letters with one set."""
    lines = [("set", 0), ("not", 0)] + [("letter", letter) for letter in range(5)]
    last = None
    for letter, inside in list(itertools.product(range(5), range(2)))[:many]:
        at = len(lines)
        lines += [("and", inside, letter + 2), ("not", at), ("all", at + 1), ("denied", at + 2)]
        if last is not None:
            lines.append(("both", last, at + 3))
        last = len(lines) - 1
    return tuple(lines)


class KnownReaderTest(unittest.TestCase):
    def assert_reader(self, count, sentence, given, expected):
        self.assertTrue(is_valid(count, sentence), sentence)
        self.assertEqual(reader_with(count, sentence, given), expected, (count, sentence, given))

    def test_document_example(self):
        sentence = (("letter", 0), ("all", 0))
        self.assertEqual(sentence_reader(2, sentence), (0, (0, 1), ((0, 1), (1, 1)), (0,)))
        self.assert_reader(2, sentence, 0, (0, (0, 1), ((0, 1), (1, 1)), (0,)))

    def test_nothing(self):
        self.assert_reader(1, (("nothing",),), 0, EMPTY)
        self.assert_reader(1, (("nothing",), ("denied", 0)), 0, NOT_EMPTY)
        self.assert_reader(1, (("nothing",), ("denied", 0), ("denied", 1)), 0, EMPTY)
        self.assert_reader(2, (("nothing",),), 2, (0, (1,) * 8, ((0, 1), (1, 1)), (0,)))

    def test_all(self):
        self.assert_reader(1, (("set", 0), ("all", 0)), 0, EMPTY)
        self.assert_reader(1, (("set", 0), ("not", 0), ("all", 1)), 0, ALL)
        self.assert_reader(1, (("set", 0), ("all", 0)), 1, (0, (1, 0), ((0, 1), (1, 1)), (0,)))
        self.assert_reader(1, (("set", 0), ("all", 0)), 2, (0, (1, 0, 1, 0), ((0, 1), (1, 1)), (0,)))
        self.assert_reader(1, (("set", 1), ("all", 0)), 2, (0, (1, 1, 0, 0), ((0, 1), (1, 1)), (0,)))

    def test_one(self):
        counted = ((0, 1, 2), (1, 2, 2), (2, 2, 2))
        self.assert_reader(1, (("one", 0),), 1, (0, (0, 1), counted, (1,)))
        self.assert_reader(1, (("one", 0),), 2, (0, (0, 1, 0, 1), counted, (1,)))
        self.assert_reader(2, (("one", 1),), 2, (0, (0, 0, 1, 1, 0, 0, 1, 1), counted, (1,)))
        for number in range(4):
            for given in range(number + 1):
                self.assert_reader(1, (("one", number),), given, (0, (0,) * width(given), ((0,),), ()))

    def test_first_and_last(self):
        mul = ((0, 1, 2), (1, 1, 1), (2, 2, 2))
        self.assert_reader(2, (("letter", 1), ("first", 0)), 0, (0, (1, 2), mul, (0, 2)))
        mul = ((0, 1, 2), (1, 1, 2), (2, 1, 2))
        self.assert_reader(2, (("letter", 0), ("last", 0)), 0, (0, (1, 2), mul, (0, 1)))

    def test_next(self):
        # 0 is never followed by 0. The values are those of the words: empty, 0, 1, 00, 01, 10.
        sentence = (("letter", 0), ("not", 0), ("next", 0, 1))
        mul = (
            (0, 1, 2, 3, 4, 5),
            (1, 3, 4, 3, 3, 1),
            (2, 5, 2, 3, 2, 5),
            (3, 3, 3, 3, 3, 3),
            (4, 1, 4, 3, 4, 1),
            (5, 3, 2, 3, 3, 5),
        )
        self.assert_reader(2, sentence, 0, (0, (1, 2), mul, (0, 1, 2, 4, 5)))

    def test_both(self):
        # Both letters stand somewhere.
        sentence = (("letter", 0), ("all", 0), ("denied", 1), ("not", 0), ("all", 3), ("denied", 4), ("both", 2, 5))
        mul = tuple(tuple((x | y) for y in range(4)) for x in range(4))
        self.assert_reader(2, sentence, 0, (0, (1, 2), mul, (3,)))
        self.assert_reader(1, (("nothing",), ("denied", 0), ("both", 0, 1)), 0, NOTHING)

    def test_there(self):
        self.assert_reader(1, (("one", 0), ("there", 0)), 0, NOT_EMPTY)
        self.assert_reader(1, (("set", 0), ("all", 0), ("there", 1)), 0, ALL)
        self.assert_reader(1, (("one", 1), ("there", 0)), 0, NOTHING)
        self.assert_reader(1, (("one", 1), ("there", 0)), 1, (0, (1, 1), ((0, 1), (1, 1)), (1,)))
        # An even number of places.
        even = (("set", 0), ("not", 0), ("next", 0, 1), ("next", 1, 0), ("both", 2, 3), ("first", 0), ("last", 1),
                ("both", 5, 6), ("both", 4, 7), ("there", 8))
        self.assert_reader(1, even, 0, (0, (1,), ((0, 1), (1, 0)), (0,)))

    def test_there_in_there(self):
        two = (("set", 0), ("set", 1), ("and", 0, 1), ("not", 2), ("all", 3), ("one", 0), ("one", 1), ("both", 5, 6),
               ("both", 4, 7), ("there", 8), ("there", 9))
        self.assert_reader(1, two, 0, (0, (1,), ((0, 1, 2), (1, 2, 2), (2, 2, 2)), (2,)))
        three = (("there", 0), ("there", 1), ("there", 2))
        self.assert_reader(1, (("one", 2),) + three, 0, NOT_EMPTY)
        self.assert_reader(1, (("one", 3),) + three, 0, NOTHING)

    def test_line_that_is_read_at_two_depths(self):
        sentence = (("one", 0), ("there", 0), ("denied", 0), ("both", 1, 2))
        self.assert_reader(1, sentence, 0, NOT_EMPTY)
        # The set 0 is the given one then, at both places, so that the line is both said and denied.
        self.assert_reader(1, sentence, 1, (0, (0, 0), ((0,),), ()))
        deeper = (("one", 1), ("there", 0), ("there", 1), ("both", 0, 1), ("denied", 3), ("both", 2, 4))
        self.assert_reader(1, deeper, 0, NOT_EMPTY)


class ReaderTest(unittest.TestCase):
    def assert_accepts_what_holds(self, count, sentence, given, longest):
        """The reader accepts a marked word exactly if the sentence holds, it fits, and it is the least one."""
        reader = reader_with(count, sentence, given)
        self.assertIsNone(fault(count * width(given), reader), sentence)
        self.assertEqual(least(reader), reader, sentence)
        if given == 0:
            self.assertEqual(sentence_reader(count, sentence), reader)
        for row in rows_of(count, longest):
            for sets in choices_of_sets(given, len(row)):
                self.assertIs(accepts(reader, marked(row, sets)), sentence_says(sentence, row, sets), (sentence, row, sets))
        return reader

    def test_each_kind_of_line(self):
        for part in PLACE_PARTS:
            for sentence in with_each_row_line(part):
                for given in (0, 1, 2):
                    reader = self.assert_accepts_what_holds(2, sentence, given, 3 if given < 2 else 2)
                    self.assertEqual(reader, line_reader(2, sentence, len(sentence) - 1, given), sentence)

    def test_each_kind_of_line_below_next(self):
        for first, second in itertools.product(PLACE_PARTS, PLACE_PARTS):
            moved = tuple(
                (name, *(member + len(first) for member in members)) if name in ("not", "and") else (name, *members)
                for name, *members in second
            )
            sentence = first + moved
            sentence += (("next", len(first) - 1, len(sentence) - 1),)
            for given in (0, 1, 2):
                reader = reader_with(2, sentence, given)
                self.assertEqual(reader, line_reader(2, sentence, len(sentence) - 1, given), sentence)
            self.assert_accepts_what_holds(2, sentence, 1, 3)

    def test_many_sentences(self):
        for count, longest in ((1, 4), (2, 3), (3, 3)):
            for sentence in some_sentences(count, 150, 12):
                for given in (0, 1):
                    if depth_of(sentence) + given <= 3 and depth_of(sentence) <= 2 and size_of(sentence) <= 200:
                        reader = self.assert_accepts_what_holds(count, sentence, given, longest - given)
                        self.assertEqual(reader, line_reader(count, sentence, len(sentence) - 1, given), sentence)

    def test_longer_words(self):
        sentences = [
            (("letter", 0), ("letter", 1), ("next", 0, 1)),
            (("set", 0), ("not", 0), ("next", 0, 1), ("next", 1, 0), ("both", 2, 3), ("first", 0), ("last", 0),
             ("both", 5, 6), ("both", 4, 7), ("there", 8)),
            (("set", 0), ("letter", 1), ("not", 1), ("and", 0, 2), ("not", 3), ("all", 4), ("one", 0), ("both", 5, 6),
             ("there", 7)),
        ]
        for sentence in sentences:
            self.assert_accepts_what_holds(2, sentence, 0, 8)

    def test_five_letters_and_three_sets(self):
        sentence = (("set", 2), ("letter", 4), ("and", 0, 1), ("not", 2), ("all", 3), ("denied", 4))
        reader = reader_with(5, sentence, 3)
        self.assertEqual(reader, (0, (0,) * 36 + (1,) * 4, ((0, 1), (1, 1)), (1,)))
        self.assertEqual(reader_with(5, sentence + (("there", 5),), 2), (0, (0,) * 16 + (1,) * 4, ((0, 1), (1, 1)), (1,)))
        for given in (0, 1):
            found = reader_with(5, sentence + (("there", 5),), given)
            self.assertEqual(found, (0, (0,) * 5 * width(given), ((0,),), ()))

    def test_against_holds(self):
        sentence = (("letter", 1), ("set", 0), ("set", 1), ("and", 0, 1), ("next", 3, 2), ("there", 4), ("denied", 4),
                    ("both", 5, 6), ("one", 1), ("denied", 8), ("both", 7, 9))
        for given in (0, 1, 2):
            reader = reader_with(2, sentence, given)
            for row in rows_of(2, 3):
                for sets in choices_of_sets(given, len(row)):
                    self.assertIs(accepts(reader, marked(row, sets)), holds(sentence, row, sets))

    def test_many_uses_of_one_line(self):
        # Read one by one, these would be 2 to the power of 57 lines.
        doubled = (("letter", 0), ("not", 0), ("all", 0)) + tuple(("both", at, at) for at in range(2, 59))
        self.assertEqual(sentence_reader(2, doubled), (0, (0, 1), ((0, 1), (1, 1)), (0,)))
        doubled = (("letter", 0),) + tuple(("and", at, at) for at in range(58)) + (("all", 58),)
        self.assertEqual(sentence_reader(2, doubled), (0, (0, 1), ((0, 1), (1, 1)), (0,)))
        chain = (("nothing",),) + tuple(("denied", at) for at in range(59))
        self.assertEqual(sentence_reader(1, chain), NOT_EMPTY)

    def test_arguments_stay(self):
        sentence = (("letter", 0), ("set", 0), ("and", 0, 1), ("all", 2), ("there", 3))
        kept = copy.deepcopy(sentence)
        reader_with(2, sentence, 1)
        self.assertEqual(sentence, kept)


class TooManyValuesTest(unittest.TestCase):
    def test_joined_readers(self):
        self.assertEqual(len(reader_with(5, seen(8), 1)[2]), 256)
        for many in (9, 10):
            self.assertTrue(is_valid(5, seen(many)))
            with self.assertRaises(TooManyValues):
                reader_with(5, seen(many), 1)
            # Without the set, half of these stand nowhere.
            self.assertEqual(sentence_reader(5, seen(many)), (0, (0,) * 5, ((0,),), ()))

    def test_pairs_of_letters(self):
        letters = [("letter", letter) for letter in range(5)]
        pairs = [(letters[at], letters[at * 2 % 5]) for at in range(5)] + [(letters[0], letters[1])]
        self.assertLessEqual(len(sentence_reader(5, there_are(pairs[:2]))[2]), 300)
        with self.assertRaises(TooManyValues):
            sentence_reader(5, there_are(pairs))

    def test_sets_of_values(self):
        self.assertTrue(is_valid(5, MANY_COLOURINGS))
        self.assertTrue(is_valid(5, TOO_MANY_COLOURINGS))
        self.assertLessEqual(len(sentence_reader(5, MANY_COLOURINGS)[2]), 289)
        self.assertEqual(len(reader_with(5, TOO_MANY_COLOURINGS[:-1], 1)[2]), 92)
        with self.assertRaises(TooManyValues):
            sentence_reader(5, TOO_MANY_COLOURINGS)

    def test_sets_of_values_against_holds(self):
        reader = sentence_reader(5, MANY_COLOURINGS)
        for row in rows_of(5, 3):
            self.assertIs(accepts(reader, row), holds(MANY_COLOURINGS, row, []))

    def test_lines_inside_others(self):
        crowd = seen(9)
        last = len(crowd) - 1
        never = (("nothing",), ("denied", last + 1), ("both", last + 1, last + 2))
        for more in (
            (("denied", last),), (("both", last, last),), never + (("both", last + 3, last),),
            never + (("both", last, last + 3),), never + (("both", last + 3, last), ("denied", last + 4)),
        ):
            self.assertTrue(is_valid(5, crowd + more))
            with self.assertRaises(TooManyValues):
                reader_with(5, crowd + more, 1)
        with self.assertRaises(TooManyValues):
            reader_with(5, crowd + (("there", last),), 0)

    def test_lines_that_are_not_used(self):
        crowd = seen(9)
        for given in (0, 1):
            self.assertEqual(reader_with(5, crowd + (("nothing",),), given)[2], ((0, 1), (1, 1)))
            found = reader_with(5, crowd + (("there", len(crowd) - 1), ("set", 0), ("one", 2)), given)
            self.assertEqual(found, (0, (0,) * 5 * width(given), ((0,),), ()))

    def test_only_at_the_depth_at_which_a_line_is_read(self):
        # With no given set there is no set 0 outside of the `there`, and few values.
        crowd = seen(9)
        last = len(crowd) - 1
        sentence = crowd + (("nothing",), ("there", last + 1), ("both", last, last + 2))
        self.assertEqual(sentence_reader(5, sentence), (0, (0,) * 5, ((0,),), ()))
        with self.assertRaises(TooManyValues):
            reader_with(5, sentence, 1)

    def test_fewer_values_when_made_least(self):
        # Both parts have 16 values, of the same four letters: 16 pairs, and not 256.
        parts = [("letter", letter) for letter in range(4)]
        first = there_are(parts)
        second = tuple((name, *members) if name in ("letter",) else (name, *(at + len(first) for at in members))
                       for name, *members in there_are(parts[::-1]))
        sentence = first + second + (("both", len(first) - 1, len(first) + len(second) - 1),)
        self.assertEqual(sentence_reader(4, sentence), sentence_reader(4, first))
        self.assertEqual(len(sentence_reader(4, first)[2]), 16)


# Each letter but the end marks stands, as its copy 0; the end marks do not.
INNER = (("letter", 0), ("letter", 1), ("not", 0), ("not", 1), ("and", 2, 3), ("set", 0), ("not", 5), ("not", 4),
         ("and", 5, 7), ("not", 8), ("all", 9), ("one", 0), ("both", 10, 11))
AHEAD = (("set", 0), ("set", 1), ("next", 0, 1))
DOMAIN = (("letter", 2), ("all", 0), ("denied", 1))


class MadePlanTest(unittest.TestCase):
    def test_no_copies(self):
        for letters in (1, 2, 3):
            made = made_plan((letters, (), DOMAIN, (), ()))
            self.assertEqual(made, (letters, (), sentence_reader(letters + 2, DOMAIN), (), ()))

    def test_one_copy(self):
        for letters in (1, 2, 3):
            count = letters + 2
            made = made_plan((letters, (2,), DOMAIN, (INNER,), ((AHEAD,),)))
            domain, place, ahead = sentence_reader(count, DOMAIN), reader_with(count, INNER, 1), reader_with(count, AHEAD, 2)
            self.assertEqual(made, (letters, (2,), domain, (place,), ((ahead,),)))
            self.assertEqual([len(reader[1]) for reader in (domain, place, ahead)], [count, 2 * count, 4 * count])

    def test_two_copies(self):
        nothing = (("nothing",),)
        sentences = [(("set", 1), ("set", 0), ("next", 0, 1)), nothing, AHEAD, (("one", 1), ("denied", 0))]
        written = (2, (1, 0), nothing, (INNER, DOMAIN), (tuple(sentences[:2]), tuple(sentences[2:])))
        kept = copy.deepcopy(written)
        readers = [reader_with(4, sentence, 2) for sentence in sentences]
        self.assertEqual(made_plan(written), (
            2, (1, 0), sentence_reader(4, nothing), (reader_with(4, INNER, 1), reader_with(4, DOMAIN, 1)),
            (tuple(readers[:2]), tuple(readers[2:])),
        ))
        self.assertEqual(written, kept)

    def test_the_readers_accept_what_holds(self):
        made = made_plan((1, (0,), DOMAIN, (INNER,), ((AHEAD,),)))
        for tape in ([0, 1], [0, 2, 1], [0, 2, 2, 1]):
            self.assertIs(accepts(made[2], tape), holds(DOMAIN, tape, []))
            for x in range(len(tape)):
                self.assertIs(accepts(made[3][0], marked(tape, [[x]])), tape[x] == 2)
                for y in range(len(tape)):
                    self.assertIs(accepts(made[4][0][0], marked(tape, [[x], [y]])), y == x + 1 or x == len(tape) - 1)

    def test_too_many_values(self):
        plain, crowd = (("nothing",),), seen(9)
        readers = ((plain, plain), (plain, plain))
        letters = [("letter", letter) for letter in range(5)]
        pairs = there_are([(letters[at], letters[at * 2 % 5]) for at in range(5)] + [(letters[0], letters[1])])
        made_plan((3, (0, 1), crowd, (plain, plain), readers))
        for written in (
            (3, (0, 1), pairs, (plain, plain), readers),
            (3, (0, 1), plain, (crowd, plain), readers),
            (3, (0, 1), plain, (plain, crowd), readers),
            (3, (0, 1), plain, (plain, plain), ((crowd, plain), (plain, plain))),
            (3, (0, 1), plain, (plain, plain), ((plain, plain), (plain, crowd))),
        ):
            with self.assertRaises(TooManyValues):
                made_plan(written)


class OwnFileTest(unittest.TestCase):
    def test_defined_in_their_file(self):
        for function in (reader_with, sentence_reader, made_plan):
            self.assertEqual(function.__module__, "twoways.sentences")

    def test_denied_sentences(self):
        for sentence in some_sentences(2, 60, 8):
            if depth_of(sentence) <= 3:
                negated = sentence + (("denied", len(sentence) - 1),)
                self.assertEqual(sentence_reader(2, negated), denied(sentence_reader(2, sentence)))


if __name__ == "__main__":
    unittest.main()
