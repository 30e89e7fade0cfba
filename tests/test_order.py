import copy
import itertools
import unittest

import plan_examples
from document import least_reader
from document_plans import is_out_of_order, plan_tells
from examples import some_numbers, some_readers
from machine_examples import few_copies
from plan_examples import INNER, IS_LEFT, IS_NEXT, IS_RIGHT, IS_SAME, NEVER, both, either, some_plans, written_plan
from sentence_examples import rows_of
from test_machine_of import TOO_LARGE_RELATION, circle, plans_of_one_copy, small_plans
from test_runs import COPY
from twoways.errors import TooManyValues
from twoways.moves import moved, some
from twoways.order import ordered
from twoways.plan_of import plan_for
from twoways.plans import planned
from twoways.readers import accepts
from twoways.sentences import made_plan, reader_with, sentence_reader
from twoways.tapes import tape_of, word_of
from twoways.values import denied, joint, least, shortest

ORDERED = ("COPY_PLAN TURNED_PLAN NO_COPIES REFUSING NONE_STANDS LETTERS_PLAN MIRRORED_PLAN DOUBLED_PLAN DOUBLED_BACK "
           "TWICE_PLAN THERE_AND_BACK CHOOSING").split()

# At least two places, first a 0 and last a 1, and 0 and 1 nowhere else.
IS_TAPE = (
    ("letter", 0), ("letter", 1), ("not", 0), ("not", 1), ("and", 2, 3), ("first", 0), ("last", 1),
    # From the first place on no 0 behind anything, and a 1 in front of nothing.
    ("and", 0, 2), ("not", 7), ("next", 8, 2), ("next", 1, 7), ("nothing",), ("denied", 11),
    ("both", 5, 6), ("both", 9, 10), ("both", 13, 14), ("both", 15, 12),
)

def speaks_without_a_row(plan, word):
    return accepts(plan[2], tape_of(word)) and planned(plan, word) is None


def first_in_the_order_of_point_12(reader):
    """The shortest word, found by trying all words; the reader is a least one."""
    empty, letters, mul, accepted = reader
    least_words = {}
    for length in range(8):
        for word in itertools.product(range(len(letters)), repeat=length):
            value = empty
            for letter in word:
                value = mul[value][letters[letter]]
            least_words.setdefault(value, []).append(list(word))
        if any(value in least_words for value in accepted):
            break
    lengths = {value: len(words[0]) for value, words in least_words.items()}
    value = min((lengths[value], value) for value in accepted if value in lengths)[1]
    word = []
    while lengths[value] > 0:
        ways = [(letter, y) for letter in range(len(letters)) for y in sorted(lengths)
                if lengths[y] == lengths[value] - 1 and mul[letters[letter]][y] == value]
        letter, value = ways[0]
        word.append(letter)
    return word


def reader_of_faults(plan):
    """The reader of point 41, by its words, from the functions of the interface. May raise TooManyValues."""
    letters, copies, domain, place, ahead = plan
    count = letters + 2
    all_copies = range(len(copies))

    def conjunction(first, *others):
        for other in others:
            first = least(joint("both", first, other))
        return first

    def stands(c, i, sets):
        return moved(place[c], 1, [i], sets)

    def is_before(c, d, i, j, sets):
        return conjunction(moved(ahead[c][d], 2, [i, j], sets), denied(moved(ahead[d][c], 2, [j, i], sets)))

    one_each = reader_with(count, (("one", 0), ("one", 1), ("both", 0, 1)), 2)
    same_place = reader_with(count, IS_SAME, 2)
    found = conjunction(denied(domain), domain)
    for c, d in itertools.product(all_copies, repeat=2):
        pair = conjunction(one_each, stands(c, 0, 2), stands(d, 1, 2),
                           denied(is_before(c, d, 0, 1, 2)), denied(is_before(d, c, 1, 0, 2)))
        if c == d:
            pair = conjunction(pair, denied(same_place))
        found = least(joint("either", found, some(some(pair, 2), 1)))
    for c, d, e in itertools.product(all_copies, repeat=3):
        first = conjunction(one_each, stands(c, 0, 2), is_before(c, d, 0, 1, 2), stands(d, 1, 2))
        second = conjunction(one_each, is_before(d, e, 0, 1, 2), stands(e, 1, 2))
        third = conjunction(one_each, denied(is_before(c, e, 0, 1, 2)))
        triple = conjunction(moved(first, 2, [0, 2], 3), moved(second, 2, [2, 1], 3), moved(third, 2, [0, 1], 3))
        found = least(joint("either", found, some(some(some(triple, 3), 2), 1)))
    return conjunction(found, domain, sentence_reader(count, IS_TAPE))


class OrderedTest(unittest.TestCase):
    def assert_ordered(self, plan, longest):
        """Whether the plan is found to be in order agrees with what it tells; returns the word."""
        word = ordered(plan)
        for other in rows_of(plan[0], longest):
            wrong = speaks_without_a_row(plan, other)
            self.assertIs(wrong, is_out_of_order(plan, other))
            if word is None or len(other) < len(word):
                self.assertFalse(wrong, (word, other))
        if word is not None:
            self.assertIs(type(word), list)
            self.assertTrue(speaks_without_a_row(plan, word), word)
            self.assertIsNone(plan_tells(plan, word))
        return word

    def assert_first_word(self, plan):
        """The word is the one of point 41; returns whether that could be found by its words."""
        try:
            reader = reader_of_faults(plan)
        except TooManyValues:
            return False
        self.assertEqual(least_reader(reader) if len(reader[2]) < 40 else least(reader), reader)
        found = shortest(reader)
        self.assertEqual(ordered(plan), None if found is None else word_of(found))
        if found is not None and len(found) < 7:
            self.assertEqual(first_in_the_order_of_point_12(reader), found)
        return True

    def test_plans_in_order(self):
        for name in ORDERED:
            self.assertIsNone(self.assert_ordered(made_plan(getattr(plan_examples, name)), 4), name)
        for machine in [COPY] + list(few_copies())[::7]:
            plan = plan_for(machine)
            self.assertIsNone(self.assert_ordered(plan, 4))

    def test_without_copies(self):
        for domain in some_readers(4) + [(0, (1,) * 4, circle(many, (1,))[2], (0, 3)) for many in (50, 300)]:
            self.assertIsNone(ordered((2, (), domain, (), ())))

    def test_named_plans_of_one_copy(self):
        kinds = {}
        for plan in plans_of_one_copy():
            word = self.assert_ordered(plan, 2)
            kind = None if word is None else len(word)
            kinds[kind] = kinds.get(kind, 0) + 1
        # Only those whose ahead reader accepts nothing, and of which two places may stand, are not in order.
        self.assertEqual(set(kinds), {None, 0, 1, 2})

    def test_two_places(self):
        self.assertEqual(self.assert_ordered(made_plan(plan_examples.NEITHER_AHEAD), 4), [0, 0])
        self.assertEqual(self.assert_ordered(made_plan(plan_examples.EACH_AHEAD), 4), [0, 0])
        self.assertEqual(self.assert_ordered(made_plan(plan_examples.NEXT_ONLY), 4), [0, 0, 0])

    def test_two_copies_at_one_place(self):
        self.assertEqual(self.assert_ordered(made_plan(plan_examples.SAME_PLACE_NEITHER), 4), [0])
        self.assertEqual(self.assert_ordered(made_plan(plan_examples.SAME_PLACE_EACH), 4), [0])
        # One copy alone at a place is not before itself, and need not be.
        for relation in (IS_SAME, either(IS_LEFT, IS_SAME), both(IS_SAME, IS_LEFT)):
            plan = made_plan(written_plan(1, [0], [plan_examples.has_letter(0)], [[relation]]))
            self.assertIsNone(self.assert_ordered(plan, 4))

    def test_copies_at_different_places(self):
        # Both copies are in order, but at different places they are not in order with each other.
        plan = made_plan(written_plan(1, [0, 1], [INNER, INNER], [[IS_LEFT, IS_SAME], [NEVER, IS_LEFT]]))
        self.assertEqual(self.assert_ordered(plan, 4), [0, 0])

    def test_circles(self):
        self.assertEqual(self.assert_ordered(made_plan(plan_examples.CIRCLE), 5), [0, 0, 0])
        # Of any two places one is before the other one: the right one if it is the next one, otherwise the left one.
        turned = either(both(IS_RIGHT, plan_examples.negated(plan_examples.exchanged(IS_NEXT))), both(IS_LEFT, IS_NEXT))
        plan = made_plan(written_plan(1, [0], [INNER], [[turned]]))
        self.assertEqual(self.assert_ordered(plan, 5), [0, 0, 0])
        # Copies and places in one circle: the first copy on the left before the second one, that before the first one
        # on the right, but this one before the first one on the left.
        plan = made_plan(written_plan(1, [0, 1], [INNER, INNER], [
            [IS_RIGHT, either(IS_LEFT, IS_SAME)], [IS_LEFT, IS_LEFT]]))
        self.assertEqual(self.assert_ordered(plan, 4), [0, 0])

    def test_domain_that_refuses_the_shortest_tapes(self):
        for many, accepted, expected in ((4, (0,), 2), (4, (1,), 3), (6, (3,), 7), (5, (0, 3), 3), (9, (1,), 8)):
            plan = made_plan(plan_examples.NEITHER_AHEAD)
            plan = (1, (0,), circle(many, accepted), *plan[3:])
            self.assertEqual(self.assert_ordered(plan, 4), [0] * expected)
        plan = made_plan(plan_examples.NEITHER_AHEAD)
        self.assertIsNone(ordered((1, (0,), denied(denied((0, (0,) * 3, ((0,),), ()))), *plan[3:])))

    def test_domain_that_tells_letters(self):
        written = written_plan(2, [0], [INNER], [[NEVER]], plan_examples.first_is(3))
        self.assertEqual(self.assert_ordered(made_plan(written), 4)[0], 1)
        written = written_plan(2, [0], [INNER], [[either(IS_LEFT, plan_examples.first_is(3))]])
        self.assertEqual(self.assert_ordered(made_plan(written), 4)[0], 1)

    def test_only_tapes_count(self):
        # Of the copy at the end marks none is before another one, but there is only one on each tape.
        for letter in (0, 1):
            plan = made_plan(written_plan(1, [0], [plan_examples.has_letter(letter)], [[NEVER]]))
            self.assertIsNone(self.assert_ordered(plan, 4))
        ends = either(plan_examples.has_letter(0), plan_examples.has_letter(1))
        self.assertEqual(self.assert_ordered(made_plan(written_plan(1, [0], [ends], [[NEVER]])), 4), [])
        self.assertIsNone(self.assert_ordered(made_plan(written_plan(1, [0], [ends], [[IS_LEFT]])), 4))

    def test_the_word_is_that_of_the_least_reader(self):
        compared = 0
        for plan in small_plans():
            compared += self.assert_first_word(plan)
        for copies, many in ((1, 40), (2, 30)):
            for written in some_plans(many, copies):
                compared += self.assert_first_word(made_plan(written))
        self.assertGreater(compared, 50)

    def test_many_plans(self):
        kinds = {}
        for copies, many in ((1, 60), (2, 60)):
            for written in some_plans(many, copies):
                plan = made_plan(written)
                word = self.assert_ordered(plan, 3)
                kind = None if word is None else len(word)
                kinds[kind] = kinds.get(kind, 0) + 1
        self.assertGreater(kinds[None], 20)
        self.assertGreater(len(kinds), 3)

    def test_plans_of_any_readers(self):
        found = {True: 0, False: 0}
        readers = [[reader for reader in some_readers(3 * 2 ** sets) if len(reader[2]) <= 4] for sets in range(3)]
        numbers = iter(some_numbers(47, 1000, 1 << 20))
        for copies in (1, 1, 2) * 25:
            domain, *places = [readers[at > 0][next(numbers) % len(readers[at > 0])] for at in range(copies + 1)]
            ahead = tuple(tuple(readers[2][next(numbers) % len(readers[2])] for _ in range(copies)) for _ in range(copies))
            plan = (1, (0, 2)[:copies], domain, tuple(places), ahead)
            try:
                word = self.assert_ordered(plan, 5)
            except TooManyValues:
                continue
            found[word is None] += 1
            self.assert_first_word(plan)
        self.assertGreater(min(found.values()), 15)

    def test_too_many_values(self):
        large = TOO_LARGE_RELATION
        never = (0, (0,) * 12, ((0,),), ())
        # Words with two places that are multiples of 13, and that are multiples of 300 long.
        with self.assertRaises(TooManyValues):
            ordered((*large[:4], ((never,),)))

    def test_new_lists_and_arguments(self):
        plan = made_plan(plan_examples.NEXT_ONLY)
        kept = copy.deepcopy(plan)
        ordered(plan).append(7)
        self.assertEqual(ordered(plan), [0, 0, 0])
        self.assertEqual(plan, kept)


if __name__ == "__main__":
    unittest.main()
