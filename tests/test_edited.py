import copy
import unittest

from document_edits import PlainEdits, is_even
from examples import changed, counting, some_numbers
from test_runs import COPY, TURN_ROUND, TWICE, blind, machine_of, some_machines
from twoways.edited import EditedWord
from twoways.errors import InvalidLetter, InvalidMachine, OutsideWord, TooManyEdits, TwowaysError, WordTooLong
from twoways.runs import run

# Stops only on words of even length: it goes to the right in the states 0 and 1, one after the other.
EVEN_ONLY = machine_of(2, 2, blind(2), {
    (0, 0, 0, 0): ("right", 0, (2,)), (0, 0, 2, 0): ("right", 1, (0,)), (0, 0, 3, 0): ("right", 1, (1,)),
    (1, 0, 2, 0): ("right", 0, ()), (1, 0, 3, 0): ("right", 0, (0, 1)), (0, 0, 1, 0): ("stop", 0, (1,)),
})


def state(edited):
    return (edited.word(), edited.made(), edited.height(), edited.edits(), edited.undone())


def raised(action):
    """The name of the error that is raised, with its place if it has one, or None."""
    try:
        action()
    except TwowaysError as error:
        return (type(error).__name__, error.place) if isinstance(error, InvalidLetter) else (type(error).__name__,)
    return None


class EditedTest(unittest.TestCase):
    def assert_state(self, edited, machine, plain):
        self.assertEqual(state(edited), plain.state())
        self.assertTrue(is_even(plain.tree))
        told = run(machine, plain.word())
        self.assertEqual(edited.written(), None if told is None else told[0])


class MakeTest(EditedTest):
    def test_made_of_a_word(self):
        for machine in (COPY, TWICE, TURN_ROUND, EVEN_ONLY):
            for length in list(range(0, 20)) + [31, 64, 65, 100, 199, 200]:
                word = some_numbers(length, length, machine[0])
                self.assert_state(EditedWord(machine, word), machine, PlainEdits(machine[0], word))

    def test_empty_word(self):
        edited = EditedWord(COPY, [])
        self.assertEqual(state(edited), ([], 0, 0, 0, 0))
        self.assertEqual(edited.written(), [])

    def test_few_letters(self):
        self.assertEqual(state(EditedWord(TURN_ROUND, [1])), ([1], 0, 1, 0, 0))
        self.assertEqual(state(EditedWord(TURN_ROUND, [1, 0])), ([1, 0], 1, 2, 0, 0))
        # The third letter makes a pair with the second one, and that a pair with the first one.
        self.assertEqual(state(EditedWord(TURN_ROUND, [1, 0, 0])), ([1, 0, 0], 2, 3, 0, 0))
        # The tree of three is a pair of height 2 and a leaf: then the leaf is paired, and the two pairs.
        self.assertEqual(state(EditedWord(TURN_ROUND, [1, 0, 0, 1])), ([1, 0, 0, 1], 4, 3, 0, 0))

    def test_invalid_machine(self):
        for number, member, word in ((0, 4, "letters"), (1, 5, "states"), (1, 0, "states"), (3, 3, "width"),
                                     (4, (0, 3), "outs"), (5, ((0, 0, 0, 0, "up", 0, ()),), "steps"),
                                     (5, TURN_ROUND[5][::-1], "order"), (2, (0, (0,) * 3, ((0,),), ()), "look")):
            machine = changed(TURN_ROUND, number, member)
            with self.assertRaises(InvalidMachine) as caught:
                EditedWord(machine, [0])
            self.assertEqual(caught.exception.word, word)

    def test_no_exception_for_machines_of_plans(self):
        look = (0, (0, 1, 2), counting(3, 7)[2], ())
        for machine, word in ((changed(COPY, 1, 20), "states"), (changed(COPY, 2, look), "look"),
                              (changed(COPY, 3, 3), "width")):
            with self.assertRaises(InvalidMachine) as caught:
                EditedWord(machine, [])
            self.assertEqual(caught.exception.word, word)

    def test_invalid_letters(self):
        for word, place in (([1], 0), ([0, 0, 1, 1], 2), ([0, -1], 1), ([0] * 200 + [2], 200), ([3] * 300, 0)):
            with self.assertRaises(InvalidLetter) as caught:
                EditedWord(COPY, word)
            self.assertEqual(caught.exception.place, place)

    def test_too_long(self):
        self.assertEqual(len(EditedWord(COPY, [0] * 200).word()), 200)
        for length in (201, 202, 500):
            with self.assertRaises(WordTooLong):
                EditedWord(COPY, [0] * length)

    def test_the_first_error_that_is_due(self):
        invalid = changed(COPY, 1, 0)
        self.assertEqual(raised(lambda: EditedWord(invalid, [5] * 300)), ("InvalidMachine",))
        self.assertEqual(raised(lambda: EditedWord(invalid, [5])), ("InvalidMachine",))
        self.assertEqual(raised(lambda: EditedWord(invalid, [0] * 300)), ("InvalidMachine",))
        self.assertEqual(raised(lambda: EditedWord(COPY, [0] * 250 + [1])), ("InvalidLetter", 250))


class EditTest(EditedTest):
    def test_insert(self):
        edited = EditedWord(TURN_ROUND, [0, 0])
        self.assertIsNone(edited.insert(1, [1, 1]))
        self.assertEqual(edited.word(), [0, 1, 1, 0])
        self.assertIsNone(edited.insert(0, [1]))
        self.assertIsNone(edited.insert(5, [1, 0]))
        self.assertEqual(edited.word(), [1, 0, 1, 1, 0, 1, 0])
        self.assertEqual(edited.written(), [0, 1, 0, 1, 1, 0, 1])
        self.assertEqual(edited.edits(), 3)

    def test_remove(self):
        edited = EditedWord(TURN_ROUND, [0, 1, 0, 1, 1, 0])
        self.assertIsNone(edited.remove(1, 2))
        self.assertEqual(edited.word(), [0, 1, 1, 0])
        edited.remove(0, 1)
        edited.remove(2, 1)
        self.assertEqual(edited.word(), [1, 1])
        edited.remove(0, 2)
        # Both cuts make the pair of the two letters anew.
        self.assertEqual(state(edited), ([], 2, 0, 4, 0))
        self.assertEqual(edited.written(), [])

    def test_edits_of_nothing_are_edits(self):
        for length in (0, 1, 2, 3, 7, 20):
            word = some_numbers(5, length, 2)
            for at in range(length + 1):
                edited, plain = EditedWord(TURN_ROUND, word), PlainEdits(2, word)
                for action in (lambda one: one.insert(at, []), lambda one: one.remove(at, 0)):
                    self.assertEqual(raised(lambda: action(edited)), action(plain))
                    self.assert_state(edited, TURN_ROUND, plain)
                self.assertEqual((edited.word(), edited.edits()), (word, 2))

    def test_all_places(self):
        for length in range(14):
            word = some_numbers(length, length, 2)
            for at in range(length + 1):
                for many in (1, 2, 5):
                    edited, plain = EditedWord(EVEN_ONLY, word), PlainEdits(2, word)
                    edited.insert(at, [1] * many)
                    plain.insert(at, [1] * many)
                    self.assert_state(edited, EVEN_ONLY, plain)
                for many in range(length - at + 1):
                    edited, plain = EditedWord(EVEN_ONLY, word), PlainEdits(2, word)
                    edited.remove(at, many)
                    plain.remove(at, many)
                    self.assert_state(edited, EVEN_ONLY, plain)

    def test_made_counts_pairs_that_were_taken_apart(self):
        # Cutting makes pairs on both sides, and joining makes them anew.
        edited, plain = EditedWord(COPY, [0] * 100), PlainEdits(1, [0] * 100)
        edited.insert(33, [0] * 40)
        plain.insert(33, [0] * 40)
        self.assertEqual(edited.made(), plain.made)
        # 40 letters alone need 39 pairs, and the two cuts and joins of a tree of this height only a few more each.
        self.assertGreater(edited.made(), PlainEdits(1, [0] * 40).made)
        self.assertLess(edited.made(), PlainEdits(1, [0] * 40).made + 60)

    def test_only_a_few_pairs_are_made(self):
        edited = EditedWord(TWICE, [0] * 200)
        for at in range(0, 199, 3):
            edited.remove(at, 1)
            self.assertLess(edited.made(), 40)
            edited.undo()

    def test_arguments_and_lists(self):
        word, more = [0, 1, 1], [1, 1, 0]
        machine = copy.deepcopy(TURN_ROUND)
        edited = EditedWord(machine, word)
        edited.insert(1, more)
        self.assertEqual((machine, word, more), (TURN_ROUND, [0, 1, 1], [1, 1, 0]))
        word.clear()
        more.append(1)
        expected = [0, 1, 1, 0, 1, 1]
        self.assertEqual(edited.word(), expected)
        edited.word().clear()
        edited.written().append(0)
        self.assertEqual((edited.word(), edited.written()), (expected, expected[::-1]))
        self.assertTrue(edited.undo())
        self.assertEqual(edited.word(), [0, 1, 1])
        self.assertEqual(edited.written(), [1, 1, 0])

    def test_edited_words_do_not_touch_each_other(self):
        first, second = EditedWord(COPY, [0]), EditedWord(COPY, [0])
        first.insert(0, [0, 0])
        self.assertEqual((first.word(), second.word()), ([0, 0, 0], [0]))
        self.assertEqual(second.edits(), 0)


class EditErrorTest(EditedTest):
    def assert_raises(self, edited, action, expected):
        """The edit raises this and changes nothing."""
        before = (state(edited), edited.written())
        self.assertEqual(raised(lambda: action(edited)), expected)
        self.assertEqual((state(edited), edited.written()), before)

    def test_invalid_letters(self):
        edited = EditedWord(TURN_ROUND, [0, 1])
        edited.insert(0, [1])
        edited.undo()
        for word, place in (([2], 0), ([0, 1, -1, 5], 2), ([0] * 300 + [2], 300)):
            for at in (0, 2, 3, -1):
                self.assert_raises(edited, lambda one: one.insert(at, word), ("InvalidLetter", place))
        self.assertTrue(edited.redo())

    def test_outside(self):
        edited = EditedWord(TURN_ROUND, [0, 1, 1])
        edited.remove(0, 1)
        for at in (-1, 3, 100):
            self.assert_raises(edited, lambda one: one.insert(at, [1]), ("OutsideWord",))
            self.assert_raises(edited, lambda one: one.insert(at, []), ("OutsideWord",))
            self.assert_raises(edited, lambda one: one.insert(at, [1] * 250), ("OutsideWord",))
        for at, many in ((-1, 1), (-1, 0), (0, -1), (2, -1), (0, 3), (1, 2), (2, 1), (3, 0), (3, -1), (-2, 4)):
            self.assert_raises(edited, lambda one: one.remove(at, many), ("OutsideWord",))
        for at, many in ((2, 0), (0, 0), (1, 1)):
            edited.remove(at, many)
        edited.insert(1, [0])
        self.assertEqual(edited.word(), [1, 0])

    def test_outside_of_the_empty_word(self):
        edited = EditedWord(COPY, [])
        for action in (lambda one: one.insert(1, [0]), lambda one: one.insert(-1, [0]), lambda one: one.remove(0, 1),
                       lambda one: one.remove(1, 0), lambda one: one.remove(-1, 0), lambda one: one.remove(0, -1)):
            self.assert_raises(edited, action, ("OutsideWord",))
        edited.remove(0, 0)
        edited.insert(0, [])
        self.assertEqual(state(edited), ([], 0, 0, 2, 0))

    def test_too_long(self):
        edited = EditedWord(COPY, [0] * 150)
        self.assert_raises(edited, lambda one: one.insert(10, [0] * 51), ("WordTooLong",))
        self.assert_raises(edited, lambda one: one.insert(150, [0] * 200), ("WordTooLong",))
        edited.insert(10, [0] * 50)
        self.assertEqual(len(edited.word()), 200)
        self.assert_raises(edited, lambda one: one.insert(0, [0]), ("WordTooLong",))
        edited.insert(200, [])
        edited.remove(0, 1)
        edited.insert(199, [0])
        self.assert_raises(edited, lambda one: one.insert(200, [0]), ("WordTooLong",))
        self.assertEqual(edited.edits(), 4)

    def test_too_many_edits(self):
        edited = EditedWord(TURN_ROUND, [0, 1])
        for at in range(99):
            edited.insert(at, [at % 2])
        self.assertEqual(edited.edits(), 99)
        edited.remove(3, 1)
        self.assertEqual(edited.edits(), 100)
        self.assert_raises(edited, lambda one: one.insert(0, [0]), ("TooManyEdits",))
        self.assert_raises(edited, lambda one: one.insert(0, []), ("TooManyEdits",))
        self.assert_raises(edited, lambda one: one.remove(0, 0), ("TooManyEdits",))
        # The errors before it in order are raised first.
        self.assert_raises(edited, lambda one: one.insert(0, [2]), ("InvalidLetter", 0))
        self.assert_raises(edited, lambda one: one.insert(101, [0]), ("OutsideWord",))
        self.assert_raises(edited, lambda one: one.remove(0, 101), ("OutsideWord",))
        self.assert_raises(edited, lambda one: one.insert(100, [0] * 101), ("WordTooLong",))
        self.assert_raises(edited, lambda one: one.insert(100, [0] * 100), ("TooManyEdits",))
        # Room for one more, and then none again.
        self.assertTrue(edited.undo())
        self.assertEqual((edited.edits(), edited.undone()), (99, 1))
        edited.insert(0, [1])
        self.assertEqual((edited.edits(), edited.undone()), (100, 0))
        self.assert_raises(edited, lambda one: one.remove(0, 1), ("TooManyEdits",))

    def test_what_can_be_made_again_stays(self):
        edited = EditedWord(COPY, [0])
        edited.insert(0, [0, 0])
        edited.undo()
        for action, error in ((lambda one: one.insert(2, [0]), ("OutsideWord",)),
                              (lambda one: one.insert(0, [1]), ("InvalidLetter", 0)),
                              (lambda one: one.insert(0, [0] * 200), ("WordTooLong",)),
                              (lambda one: one.remove(0, 2), ("OutsideWord",))):
            self.assert_raises(edited, action, error)
        self.assertTrue(edited.redo())
        self.assertEqual(edited.word(), [0, 0, 0])


class UndoTest(EditedTest):
    def test_to_both_ends(self):
        edited, plain = EditedWord(TURN_ROUND, [0, 1]), PlainEdits(2, [0, 1])
        states = [(state(edited)[:3], edited.written())]
        for at in range(30):
            edited.insert(at // 2, [at % 2, 1])
            plain.insert(at // 2, [at % 2, 1])
            edited.remove(at // 3, 1)
            plain.remove(at // 3, 1)
            states.append((state(edited)[:3], edited.written()))
        for at in range(29, -1, -1):
            self.assertTrue(edited.undo() and edited.undo())
            self.assertEqual((state(edited)[:3], edited.written()), states[at])
        self.assertEqual((edited.edits(), edited.undone()), (0, 60))
        self.assertIs(edited.undo(), False)
        self.assertEqual((state(edited), edited.written()), ((*states[0][0], 0, 60), states[0][1]))
        for at in range(1, 31):
            self.assertTrue(edited.redo() and edited.redo())
            self.assertEqual((state(edited)[:3], edited.written()), states[at])
        self.assertIs(edited.redo(), False)
        self.assertEqual(state(edited), plain.state())

    def test_nothing_to_undo(self):
        edited = EditedWord(COPY, [0, 0])
        for _ in range(2):
            self.assertIs(edited.undo(), False)
            self.assertIs(edited.redo(), False)
            self.assertEqual(state(edited), ([0, 0], 1, 2, 0, 0))

    def test_new_edit_behind_an_undo(self):
        edited = EditedWord(TURN_ROUND, [0])
        for at in range(5):
            edited.insert(at, [1])
        edited.undo()
        edited.undo()
        self.assertEqual((edited.edits(), edited.undone()), (3, 2))
        edited.remove(0, 1)
        self.assertEqual((edited.edits(), edited.undone()), (4, 0))
        self.assertIs(edited.redo(), False)
        self.assertEqual(edited.word(), [1, 1, 0])
        self.assertIs(edited.undo(), True)
        self.assertEqual(edited.word(), [1, 1, 1, 0])
        self.assertIs(edited.redo(), True)
        self.assertEqual(edited.word(), [1, 1, 0])

    def test_made_comes_back(self):
        edited = EditedWord(COPY, [0] * 50)
        first = edited.made()
        edited.insert(25, [0] * 20)
        second = edited.made()
        edited.remove(0, 1)
        self.assertEqual(len({first, second, edited.made()}), 3)
        edited.undo()
        self.assertEqual(edited.made(), second)
        edited.undo()
        self.assertEqual(edited.made(), first)
        edited.redo()
        self.assertEqual(edited.made(), second)


class ManyEditsTest(EditedTest):
    def follow(self, machine, seed, many, longest):
        """Make many edits, wrong ones and undone ones among them, and compare each time."""
        letters = machine[0]
        numbers = iter(some_numbers(seed, many * (longest + 8), 1 << 20))
        word = [next(numbers) % letters for _ in range(next(numbers) % 30)]
        edited, plain = EditedWord(machine, word), PlainEdits(letters, word)
        for _ in range(many):
            kind, at, size = [next(numbers) for _ in range(3)]
            length = len(plain.word())
            place = at % (length + 3) - 1
            if kind % 8 < 3:
                more = [next(numbers) % (letters + (kind % 64 == 0)) for _ in range(size % longest)]
                self.assertEqual(raised(lambda: edited.insert(place, more)), plain.insert(place, more))
            elif kind % 8 < 5:
                removed = size % (length // 2 + 2) - (size % 31 == 0)
                self.assertEqual(raised(lambda: edited.remove(place, removed)), plain.remove(place, removed))
            elif kind % 8 < 7:
                self.assertIs(edited.undo(), plain.undo())
            else:
                self.assertIs(edited.redo(), plain.redo())
            self.assert_state(edited, machine, plain)
        return plain

    def test_rows_of_edits(self):
        for seed, machine in enumerate((COPY, TURN_ROUND, TWICE, EVEN_ONLY)):
            self.follow(machine, seed, 300, 12)

    def test_long_words(self):
        longest = 0
        for seed in range(4):
            longest = max(longest, len(self.follow(TURN_ROUND, seed + 20, 60, 60).word()))
        self.assertGreater(longest, 60)

    def test_many_machines(self):
        stopped, other = 0, 0
        for seed, machine in enumerate(some_machines(36)):
            plain = self.follow(machine, seed + 50, 40, 6)
            if run(machine, plain.word()) is None:
                other += 1
            else:
                stopped += 1
        self.assertGreater(stopped, 3)
        self.assertGreater(other, 3)

    def test_largest_machine(self):
        look = (0, (0, 1, 2, 3, 5), counting(5, 6)[2], ())
        steps = []
        chances = iter(some_numbers(3, 1000, 1 << 20))
        for step in range(200):
            chance = next(chances)
            sight = (step // 50, step // 10 % 5, step // 2 % 5, 3 * (step % 2))
            steps.append(sight + (("right", "left", "right", "stop")[chance % 4], chance // 8 % 4, (0, 2)))
        machine = (3, 4, look, 2, (0, 1, 2), tuple(steps))
        self.follow(machine, 9, 25, 8)
        self.assertEqual(len(EditedWord(machine, [2] * 200).word()), 200)


if __name__ == "__main__":
    unittest.main()
