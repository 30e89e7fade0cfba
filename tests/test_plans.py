import copy
import itertools
import unittest

import plan_examples
from document_plans import PlanOnTape, plan_tells
from document import sentence_says
from examples import some_numbers
from sentence_examples import rows_of
from plan_examples import ALWAYS, INNER, IS_LEFT, NEVER, NOT_TELLING, TELLING, some_plans, written_plan
from twoways.meaning import depth_of, is_valid, size_of
from twoways.plans import planned, through, told_by
from twoways.sentences import made_plan


def sentences_of(written):
    _, _, domain, place, ahead = written
    return [domain, *place, *(sentence for row in ahead for sentence in row)]


def may_be_told(written, word):
    """Whether `told_by` may be called."""
    return 2 ** ((len(word) + 2) * max(map(depth_of, sentences_of(written)))) <= 4096


class PlannedTest(unittest.TestCase):
    def assert_planned(self, written, word, expected):
        plan = made_plan(written)
        self.assertEqual(planned(plan, word), expected, word)
        self.assertEqual(plan_tells(plan, word), expected, word)
        if may_be_told(written, word):
            self.assertEqual(told_by(written, word), expected, word)

    def test_copy_and_turned(self):
        self.assert_planned(plan_examples.COPY_PLAN, [], ([], []))
        self.assert_planned(plan_examples.COPY_PLAN, [1, 0], ([1, 1], [(1, 0), (2, 0)]))
        self.assert_planned(plan_examples.TURNED_PLAN, [1, 0, 0], ([2, 2, 2], [(3, 0), (2, 0), (1, 0)]))
        self.assert_planned(plan_examples.LETTERS_PLAN, [1, 0, 1], ([1, 0, 1], [(1, 1), (2, 0), (3, 1)]))
        self.assert_planned(plan_examples.MIRRORED_PLAN, [1, 0, 0], ([0, 0, 1], [(3, 0), (2, 0), (1, 1)]))

    def test_no_copies(self):
        for word in ([], [0], [1, 0]):
            self.assert_planned(plan_examples.NO_COPIES, word, ([], []))
            self.assert_planned(written_plan(2, [], [], [], NEVER), word, None)

    def test_domain_refuses(self):
        self.assert_planned(plan_examples.REFUSING, [1, 0], ([0, 0], [(1, 0), (2, 0)]))
        for word in ([], [0], [0, 1]):
            self.assert_planned(plan_examples.REFUSING, word, None)
        # Not even nothing is written then.
        self.assert_planned(written_plan(1, [0], [NEVER], [[IS_LEFT]], NEVER), [0], None)

    def test_none_stands(self):
        for word in ([], [0], [1, 1, 0]):
            self.assert_planned(plan_examples.NONE_STANDS, word, ([], []))

    def test_end_marks_are_places_too(self):
        self.assert_planned(written_plan(1, [0], [ALWAYS], [[IS_LEFT]]), [], ([0, 0], [(0, 0), (1, 0)]))
        self.assert_planned(plan_examples.CHOOSING, [], ([0, 1], [(1, 1), (0, 0)]))
        self.assert_planned(plan_examples.CHOOSING, [0, 0], ([1, 0], [(0, 0), (3, 1)]))

    def test_copies_at_one_place(self):
        self.assert_planned(plan_examples.DOUBLED_PLAN, [1, 0], (
            [0, 1, 0, 1], [(1, 0), (1, 1), (2, 0), (2, 1)]))
        self.assert_planned(plan_examples.DOUBLED_BACK, [0], (
            [2, 2, 0, 2], [(2, 1), (1, 1), (1, 0), (0, 1)]))
        self.assert_planned(plan_examples.THREE_AT_ONE_PLACE, [0], ([0, 1, 2], [(1, 2), (1, 1), (1, 0)]))

    def test_copies_one_after_the_other(self):
        self.assert_planned(plan_examples.TWICE_PLAN, [0, 1], (
            [0, 0, 1, 1], [(1, 0), (2, 0), (1, 1), (2, 1)]))
        self.assert_planned(plan_examples.THERE_AND_BACK, [0, 1], (
            [0, 0, 1, 1], [(1, 0), (2, 0), (2, 1), (1, 1)]))
        self.assert_planned(plan_examples.THREE_COPIES, [0], (
            [0, 0, 0, 1, 2], [(0, 1), (1, 1), (2, 1), (1, 2), (1, 0)]))

    def test_neither_or_each_is_ahead(self):
        for written in (plan_examples.NEITHER_AHEAD, plan_examples.EACH_AHEAD):
            # One alone is in order, whatever is ahead of it.
            self.assert_planned(written, [0], ([0], [(1, 0)]))
            self.assert_planned(written, [0, 0], None)
        for written in (plan_examples.SAME_PLACE_NEITHER, plan_examples.SAME_PLACE_EACH):
            self.assert_planned(written, [], ([], []))
            self.assert_planned(written, [0], None)

    def test_only_next_ones(self):
        self.assert_planned(plan_examples.NEXT_ONLY, [0, 0], ([0, 0], [(1, 0), (2, 0)]))
        self.assert_planned(plan_examples.NEXT_ONLY, [0, 0, 0], None)

    def test_circles(self):
        self.assert_planned(plan_examples.CIRCLE, [0, 0], ([0, 0], [(1, 0), (2, 0)]))
        self.assert_planned(plan_examples.CIRCLE, [0, 0, 0], None)
        self.assert_planned(plan_examples.CIRCLE_OF_COPIES, [], ([], []))
        self.assert_planned(plan_examples.CIRCLE_OF_COPIES, [0], None)
        # One circle is enough: two of four that stand, and their circle with a third one.
        with_one_more = written_plan(1, [0, 1, 2, 0], [INNER] * 3 + [ALWAYS], [
            *(row + (ALWAYS,) for row in plan_examples.CIRCLE_OF_COPIES[4]), [NEVER, NEVER, NEVER, IS_LEFT]])
        self.assert_planned(with_one_more, [], ([0, 0], [(0, 3), (1, 3)]))
        self.assert_planned(with_one_more, [0], None)

    def test_all_examples(self):
        for written in TELLING + NOT_TELLING:
            self.assertTrue(all(is_valid(written[0] + 2, sentence) for sentence in sentences_of(written)))
            plan = made_plan(written)
            for word in rows_of(written[0], 4 if written[0] == 1 else 3):
                self.assertEqual(planned(plan, word), plan_tells(plan, word), word)

    def test_many_plans(self):
        told, orders = 0, 0
        for copies, many, longest in ((1, 40, 4), (2, 120, 2), (3, 60, 1)):
            for written in some_plans(many, copies):
                plan = made_plan(written)
                for word in rows_of(2, longest):
                    found = planned(plan, word)
                    self.assertEqual(found, plan_tells(plan, word), (written, word))
                    told += PlanOnTape(plan, [0, *word, 1]).speaks()
                    orders += found is not None and len(found[0]) > 2
        self.assertGreater(orders, 100)
        self.assertGreater(told, orders + 100)

    def test_200_letters(self):
        word = some_numbers(9, 200, 2)
        self.assertEqual(planned(made_plan(plan_examples.LETTERS_PLAN), word), (
            word, [(place + 1, word[place]) for place in range(200)]))
        written, origins = planned(made_plan(plan_examples.THERE_AND_BACK), word)
        self.assertEqual(written, [0] * 200 + [1] * 200)
        self.assertEqual(origins, [(x, 0) for x in range(1, 201)] + [(x, 1) for x in range(200, 0, -1)])

    def test_new_lists_and_arguments(self):
        plan = made_plan(plan_examples.DOUBLED_PLAN)
        kept, word = copy.deepcopy(plan), [0, 1]
        first, second = planned(plan, word), planned(plan, word)
        self.assertEqual((plan, word), (kept, [0, 1]))
        self.assertIs(type(first), tuple)
        self.assertEqual([type(part) for part in first], [list, list])
        self.assertEqual([type(origin) for origin in first[1]], [tuple] * 4)
        first[0].append(5)
        first[1].append(5)
        self.assertEqual(planned(plan, word), second)


class ToldByTest(unittest.TestCase):
    def test_all_examples(self):
        for written in TELLING + NOT_TELLING:
            plan = made_plan(written)
            for word in rows_of(written[0], 3):
                if may_be_told(written, word):
                    self.assertTrue(all(size_of(sentence) <= 300 for sentence in sentences_of(written)))
                    self.assertEqual(told_by(written, word), planned(plan, word), word)

    def test_many_plans(self):
        for copies, many, longest in ((1, 30, 3), (2, 30, 2), (3, 20, 1)):
            for written in some_plans(many, copies):
                plan = made_plan(written)
                for word in rows_of(2, longest):
                    self.assertEqual(told_by(written, word), planned(plan, word), (written, word))

    def test_where_readers_have_too_many_values(self):
        # Read letter by letter, 9 of 10 marked letters that stand somewhere make 512 values.
        lines = [("set", 0), ("not", 0)] + [("letter", letter) for letter in range(5)]
        crowd = None
        for at in range(9):
            lines += [("and", at % 2, 2 + at // 2), ("not", len(lines)), ("all", len(lines) + 1)]
            if crowd is not None:
                lines.append(("both", crowd, len(lines) - 1))
            crowd = len(lines) - 1
        written = written_plan(3, [2], [tuple(lines) + (("denied", crowd),)], [[IS_LEFT]])
        self.assertTrue(is_valid(5, written[3][0]))
        self.assertEqual(told_by(written, [0, 2]), ([2] * 4, [(x, 0) for x in range(4)]))

    def test_against_the_meaning(self):
        for written in some_plans(20, 2):
            for word in ([], [0], [1, 1]):
                self.assertEqual(told_by(written, word), WrittenPlanOnTape(written, word).told())

    def test_domain_without_copies(self):
        self.assertEqual(told_by(plan_examples.NO_COPIES, [0] * 200), ([], []))
        self.assertIsNone(told_by(written_plan(2, [], [], [], NEVER), [0] * 200))

    def test_long_word_without_there(self):
        one = written_plan(1, [1], [plan_examples.has_letter(1)], [[NEVER]])
        self.assertEqual(told_by(one, [0] * 200), ([1], [(201, 0)]))

    def test_arguments_stay(self):
        written, word = copy.deepcopy(plan_examples.TWICE_PLAN), [1, 0]
        told_by(written, word)
        self.assertEqual((written, word), (plan_examples.TWICE_PLAN, [1, 0]))


class WrittenPlanOnTape(PlanOnTape):
    """A written plan, by what its sentences say."""

    def __init__(self, written, word):
        super().__init__(written, [0] + [letter + 2 for letter in word] + [1])

    def speaks(self):
        return sentence_says(self.domain, self.row, [])

    def stands(self, c, x):
        return sentence_says(self.place[c], self.row, [[x]])

    def is_ahead(self, c, x, d, y):
        return sentence_says(self.ahead[c][d], self.row, [[x], [y]])


class ThroughTest(unittest.TestCase):
    def test_one_after_the_other(self):
        letters, mirrored = made_plan(plan_examples.LETTERS_PLAN), made_plan(plan_examples.MIRRORED_PLAN)
        word = [0, 0, 1, 0, 1]
        self.assertEqual(through(letters, mirrored, word), planned(mirrored, word))
        self.assertEqual(through(mirrored, mirrored, word)[0], word)
        self.assertEqual(through(mirrored, letters, word), (
            [1, 0, 1, 0, 0], [(1, 1), (2, 0), (3, 1), (4, 0), (5, 0)]))
        for first, second in itertools.product(TELLING, TELLING):
            if first[0] == 2 and max(first[1], default=0) < second[0]:
                first, second = made_plan(first), made_plan(second)
                for word in ([], [0], [1, 0]):
                    told = planned(first, word)
                    expected = None if told is None else planned(second, told[0])
                    self.assertEqual(through(first, second, word), expected)

    def test_first_tells_nothing(self):
        copying = made_plan(plan_examples.LETTERS_PLAN)
        self.assertIsNone(through(made_plan(plan_examples.REFUSING), copying, [0]))
        self.assertIsNotNone(through(made_plan(plan_examples.REFUSING), copying, [1]))
        self.assertIsNone(through(made_plan(plan_examples.NEITHER_AHEAD), copying, [0, 0]))

    def test_second_tells_nothing(self):
        copying = made_plan(plan_examples.LETTERS_PLAN)
        for second in (plan_examples.REFUSING, written_plan(2, [], [], [], NEVER)):
            self.assertIsNone(through(copying, made_plan(second), [0]))
        self.assertIsNone(through(copying, made_plan(plan_examples.NEITHER_AHEAD), [0, 0]))
        self.assertEqual(through(copying, made_plan(plan_examples.NEITHER_AHEAD), [0]), ([0], [(1, 0)]))

    def test_more_than_200_letters(self):
        none = made_plan(plan_examples.NO_COPIES)
        doubled = made_plan(plan_examples.DOUBLED_PLAN)
        everywhere = made_plan(written_plan(1, [0], [ALWAYS], [[IS_LEFT]]))
        self.assertEqual(through(doubled, none, [0] * 100), ([], []))
        self.assertIsNone(through(doubled, none, [0] * 101))
        self.assertEqual(through(everywhere, none, [0] * 198), ([], []))
        self.assertIsNone(through(everywhere, none, [0] * 199))

    def test_letters_that_the_second_plan_does_not_have(self):
        one, two = made_plan(written_plan(1, [], [], [])), made_plan(plan_examples.NO_COPIES)
        three = made_plan(written_plan(3, [], [], []))
        letters = made_plan(plan_examples.LETTERS_PLAN)
        turned = made_plan(plan_examples.TURNED_PLAN)
        self.assertEqual(through(letters, one, [0, 0]), ([], []))
        self.assertIsNone(through(letters, one, [0, 1]))
        self.assertEqual(through(letters, two, [0, 1]), ([], []))
        self.assertIsNone(through(turned, two, [0]))
        self.assertEqual(through(turned, two, []), ([], []))
        self.assertEqual(through(turned, three, [0]), ([], []))

    def test_arguments_stay(self):
        first, second, word = made_plan(plan_examples.MIRRORED_PLAN), made_plan(plan_examples.TWICE_PLAN), [1, 0]
        kept = copy.deepcopy((first, second, word))
        through(first, second, word)[0].append(3)
        self.assertEqual((first, second, word), kept)


if __name__ == "__main__":
    unittest.main()
