import copy
import itertools
import unittest

from document_plans import deed_by_steps, stretch_by_steps, tape, worth
from examples import counting, keeping_first, some_numbers
from sentence_examples import rows_of
from test_runs import COPY, TURN_ROUND, TWICE, blind, machine_of, some_machines
from twoways.runs import run
from twoways.stretches import deed, empty_stretch, joined, letter_stretch, stretch_of, written_by
from twoways.tapes import fault_of

SIDES = ("left", "right")


def entrances(machine):
    values = range(len(machine[2][2]))
    return itertools.product(values, values, SIDES, range(machine[1]))


def large_machine():
    """More states, values of look, width and steps than a machine that is not made of a plan may have."""
    look = (0, (1, 2, 3, 5), counting(4, 7)[2], ())
    steps = []
    chances = iter(some_numbers(77, 6 * 7 * 4 * 7, 1 << 20))
    for sight in itertools.product(range(6), range(7), range(4), range(7)):
        chance = next(chances)
        # Even states go forward, odd ones back, and now and then the machine turns round.
        turns = chance % 5 == 0
        move = ("right", "left")[(sight[0] + turns) % 2] if chance % 31 else "stop"
        after = (sight[0] + turns + chance // 64 % 3 * 2) % 6
        if chance % 23:
            steps.append(sight + (move, after, tuple(some_numbers(chance, chance // 16 % 5, 3))))
    return (2, 6, look, 4, (0, 1, 2), tuple(steps))


LARGE = large_machine()

def to_and_fro():
    """Goes to the right in even states and to the left in odd ones, and turns where nothing stands beyond."""
    look = (0, (1, 1, 1), ((0, 1, 2), (1, 2, 2), (2, 2, 2)), ())
    rules = {}
    for state, left, letter, right in itertools.product(range(4), range(3), range(3), range(3)):
        turns = state < 3 and (left, right)[state % 2 == 0] == 0
        rules[state, left, letter, right] = (("right", "left")[(state + turns) % 2], state + turns, (state % 3,))
    return machine_of(1, 4, look, rules)


TO_AND_FRO = to_and_fro()


def small_machines():
    """Machines of all kinds whose kept stretches have few deeds."""
    found = [COPY, TURN_ROUND, TWICE, TO_AND_FRO, machine_of(2, 3, blind(2), {})]
    return found + [machine for machine in some_machines(150) if len(machine[2][2]) ** 2 * machine[1] <= 40]


class DeedTest(unittest.TestCase):
    def assert_deed(self, machine, row, left, right, side, state, expected):
        self.assertEqual(deed(machine, row, left, right, side, state), expected)
        self.assertEqual(deed_by_steps(machine, row, left, right, side, state), expected)

    def test_example(self):
        self.assert_deed(COPY, [2, 2], 0, 0, "left", 0, ("out", "right", 0, (0, 0)))

    def test_empty_stretch(self):
        for machine in (COPY, TURN_ROUND, LARGE, machine_of(1, 4, blind(1), {})):
            for left, right, side, state in entrances(machine):
                other = {"left": "right", "right": "left"}[side]
                self.assert_deed(machine, [], left, right, side, state, ("out", other, state, ()))

    def test_leaves_on_both_sides(self):
        self.assert_deed(TURN_ROUND, [2, 3], 0, 0, "left", 0, ("out", "right", 0, ()))
        self.assert_deed(TURN_ROUND, [2, 3], 0, 0, "right", 1, ("out", "left", 1, (1, 0)))
        # Turns round at the end mark, and comes out where it came in.
        self.assert_deed(TURN_ROUND, [2, 3, 1], 0, 0, "left", 0, ("out", "left", 1, (1, 0)))
        self.assert_deed(TWICE, [0, 2], 0, 0, "right", 1, ("out", "right", 2, (0,)))
        self.assert_deed(TWICE, [0, 2, 2], 0, 0, "left", 0, ("out", "right", 0, (0, 0)))

    def test_stops(self):
        self.assert_deed(COPY, [2, 1], 0, 0, "left", 0, ("stop", (0,)))
        self.assert_deed(COPY, [2, 1, 2], 0, 0, "left", 0, ("stop", (0,)))
        self.assert_deed(COPY, [1], 0, 0, "right", 0, ("stop", ()))
        self.assert_deed(TURN_ROUND, [0, 2, 3, 1], 0, 0, "left", 0, ("stop", (1, 0)))
        self.assert_deed(TWICE, [2, 1], 0, 0, "left", 2, ("stop", (0, 1, 2)))

    def test_no_step(self):
        self.assert_deed(TURN_ROUND, [2, 1], 0, 0, "right", 1, None)
        self.assert_deed(TURN_ROUND, [2, 2, 0], 0, 0, "left", 1, ("out", "left", 1, (0,)))
        self.assert_deed(TWICE, [1], 0, 0, "left", 1, None)
        self.assert_deed(machine_of(1, 1, blind(1), {}), [2], 0, 0, "left", 0, None)

    def test_goes_round_for_ever(self):
        rules = {(0, 0, 0, 0): ("right", 1, ()), (1, 0, 2, 0): ("left", 0, (0,)), (1, 0, 1, 0): ("left", 0, ())}
        round_and_round = machine_of(1, 2, blind(1), rules)
        for row in ([0, 2], [0, 1], [2, 0, 2]):
            self.assert_deed(round_and_round, row, 0, 0, "right", 1, None)
        self.assert_deed(round_and_round, [2, 2], 0, 0, "right", 1, None)
        self.assert_deed(round_and_round, [1], 0, 0, "right", 1, ("out", "left", 0, ()))

    def test_left_and_right_values_matter(self):
        # The look knows the first letter of what it sees, each tape letter as a value.
        look = (0, (1, 2, 3, 4), keeping_first(5), ())
        rules = {(0, left, letter, right): ("right", left % 2, (left % 3, right % 3))
                 for left in range(5) for letter in range(4) for right in range(5)}
        machine = machine_of(2, 2, look, rules)
        self.assert_deed(machine, [2], 1, 2, "left", 0, ("out", "right", 1, (1, 2)))
        self.assert_deed(machine, [2], 0, 2, "left", 0, ("out", "right", 0, (0, 2)))
        self.assert_deed(machine, [2, 3], 0, 1, "left", 0, ("out", "right", 1, (0, 1, 0, 1)))
        self.assert_deed(machine, [2, 3, 3], 0, 1, "left", 0, None)
        self.assert_deed(machine, [2, 3], 4, 1, "left", 0, ("out", "right", 0, (1, 1, 1, 1)))
        # Behind the empty left value stands the first letter of the row; in front of the right value the rest of it.
        self.assert_deed(machine, [0, 1], 0, 1, "right", 0, ("out", "right", 1, (1, 1)))
        self.assert_deed(machine, [3, 0, 1], 0, 2, "left", 0, ("out", "right", 0, (0, 1, 1, 2, 1, 2)))

    def test_all_rows(self):
        for machine in [COPY, TURN_ROUND, TO_AND_FRO] + some_machines(40):
            for seed in range(6):
                row = some_numbers(seed, seed, machine[0] + 2)
                for left, right, side, state in entrances(machine):
                    self.assertEqual(deed(machine, row, left, right, side, state),
                                     deed_by_steps(machine, row, left, right, side, state))

    def test_kinds_of_deeds(self):
        for row, state, many in (([2, 2], 0, 4), ([2, 1], 2, 2), ([], 0, 4)):
            found = deed(TWICE, row, 0, 0, "left", state)
            self.assertEqual((type(found), type(found[-1]), len(found)), (tuple, tuple, many))

    def test_arguments_stay(self):
        machine, row = copy.deepcopy(TWICE), [0, 2, 2, 1]
        deed(machine, row, 0, 0, "left", 0)
        stretch_of(machine, row)
        self.assertEqual((machine, row), (TWICE, [0, 2, 2, 1]))


class KeptStretchTest(unittest.TestCase):
    def assert_stretch(self, machine, row, found):
        """It has the value, and just the deeds that the machine does."""
        value, deeds = found
        self.assertIs(type(found), tuple)
        self.assertIs(type(deeds), dict)
        self.assertEqual(value, worth(machine[2], row))
        self.assertEqual(set(deeds), set(entrances(machine)))
        for key, done in deeds.items():
            self.assertEqual(done, deed(machine, row, *key), (row, key))

    def test_letter_stretch(self):
        for machine in small_machines() + [LARGE]:
            for letter in range(machine[0] + 2):
                found = letter_stretch(machine, letter)
                self.assert_stretch(machine, [letter], found)
                self.assertEqual(found, stretch_by_steps(machine, [letter]))

    def test_empty_stretch(self):
        for machine in small_machines() + [LARGE]:
            self.assert_stretch(machine, [], empty_stretch(machine))
            self.assertEqual(empty_stretch(machine), stretch_by_steps(machine, []))

    def test_stretch_of(self):
        for machine in small_machines():
            for row in ([], [1], [0, 1], [0, 2, 1], [2, 2, 2, 1], [0, 2, 2, 2, 2, 1], [2] * 7):
                found = stretch_of(machine, row)
                self.assert_stretch(machine, row, found)
                self.assertEqual(found, stretch_by_steps(machine, row))

    def test_stretch_of_all_rows(self):
        for machine in (COPY, TWICE, TURN_ROUND, TO_AND_FRO):
            for row in rows_of(machine[0] + 2, 4):
                self.assertEqual(stretch_of(machine, row), stretch_by_steps(machine, row))

    def test_joined(self):
        for machine in small_machines():
            for first, second in itertools.product(range(5), range(5)):
                row = some_numbers(first * 5 + second, first + second, machine[0] + 2)
                found = joined(machine, stretch_of(machine, row[:first]), stretch_of(machine, row[first:]))
                self.assert_stretch(machine, row, found)

    def test_joined_to_and_fro(self):
        for first, second in itertools.product(range(1, 5), range(1, 5)):
            row = [2] * (first + second)
            one, other = stretch_of(TO_AND_FRO, row[:first]), stretch_of(TO_AND_FRO, row[first:])
            found = joined(TO_AND_FRO, one, other)
            self.assertEqual(found, stretch_by_steps(TO_AND_FRO, row))
            ways = [0] * len(row) + [1] * (len(row) - 1) + [2] * (len(row) - 1)
            self.assertEqual(found[1][0, 0, "left", 0], ("out", "left", 3, (*ways, *[0] * (len(row) - 1))))
            self.assertEqual(found[1][1, 0, "right", 1], ("out", "left", 1, (1,) * len(row)))

    def test_joined_never_leaves(self):
        # To the right in state 0, to the left in state 1; each of the two letters turns the machine round.
        rules = {(0, 0, 2, 0): ("right", 0, (0,)), (1, 0, 2, 0): ("right", 0, (0,)),
                 (0, 0, 3, 0): ("left", 1, (1,)), (1, 0, 3, 0): ("left", 1, (1,))}
        machine = machine_of(2, 2, blind(2), rules)
        first, second = letter_stretch(machine, 2), letter_stretch(machine, 3)
        for key in entrances(machine):
            self.assertIsNone(joined(machine, first, second)[1][key])
            self.assertIsNotNone(joined(machine, second, first)[1][key])
        for row in ([2, 2, 3], [2, 3, 3], [2, 2, 3, 3]):
            self.assert_stretch(machine, row, joined(
                machine, stretch_of(machine, row[:2]), stretch_of(machine, row[2:])))
        self.assertIsNone(deed(machine, [2, 3], 0, 0, "left", 0))

    def test_goes_in_once_more_in_another_state(self):
        # In each state it passes to the other letter and back; it leaves only in the last one.
        rules = {(state, 0, letter, 0): (("left", "right")[letter == 2], min(state + (letter == 3), 3), (state % 3,))
                 for state in range(3) for letter in (2, 3)}
        rules[3, 0, 2, 0] = ("left", 3, (2, 2))
        rules[3, 0, 3, 0] = ("right", 3, ())
        machine = machine_of(2, 4, blind(2), rules)
        found = joined(machine, letter_stretch(machine, 2), letter_stretch(machine, 3))
        self.assertEqual(found[1][0, 0, "left", 0], ("out", "left", 3, (0, 0, 1, 1, 2, 2, 2, 2)))
        self.assertEqual(found[1][0, 0, "right", 1], ("out", "left", 3, (1, 2, 2, 2, 2)))
        self.assertEqual(found, stretch_by_steps(machine, [2, 3]))

    def test_three_stretches_in_both_orders(self):
        for machine in small_machines():
            row = some_numbers(machine[1], 6, machine[0] + 2)
            for low, high in itertools.combinations_with_replacement(range(7), 2):
                first, second, third = [stretch_of(machine, part) for part in (row[:low], row[low:high], row[high:])]
                expected = joined(machine, joined(machine, first, second), third)
                self.assertEqual(joined(machine, first, joined(machine, second, third)), expected)
                self.assertEqual(expected, stretch_by_steps(machine, row))

    def test_empty_ones(self):
        for machine in small_machines():
            empty = empty_stretch(machine)
            for row in ([], [0], [2, 1]):
                found = stretch_of(machine, row)
                self.assertEqual(joined(machine, empty, found), found)
                self.assertEqual(joined(machine, found, empty), found)

    def test_large_machine(self):
        self.assertEqual(fault_of(LARGE), "states")
        self.assertGreater(len(LARGE[5]), 1000)
        self.assert_stretch(LARGE, [2, 3, 2], stretch_of(LARGE, [2, 3, 2]))
        row = [0, 2, 3, 3, 2, 1]
        found = stretch_of(LARGE, row)
        self.assertEqual(found, stretch_by_steps(LARGE, row))
        self.assertEqual(joined(LARGE, stretch_of(LARGE, row[:2]), stretch_of(LARGE, row[2:])), found)
        self.assertGreater(len(set(found[1].values())), 100)
        for word in rows_of(2, 4):
            told = run(LARGE, word)
            self.assertEqual(written_by(LARGE, stretch_of(LARGE, tape(word))), told if told is None else told[0])

    def test_arguments_stay(self):
        machine = copy.deepcopy(TWICE)
        first, second = stretch_of(machine, [0, 2]), stretch_of(machine, [2, 1])
        kept = copy.deepcopy((first, second))
        found = joined(machine, first, second)
        written_by(machine, found)
        self.assertEqual((machine, first, second), (TWICE, *kept))

    def test_new_dictionaries_and_lists(self):
        empty = empty_stretch(COPY)
        found = [empty, letter_stretch(COPY, 2), stretch_of(COPY, [2]), stretch_of(COPY, []),
                 joined(COPY, empty, stretch_of(COPY, [2])), joined(COPY, stretch_of(COPY, [2]), empty)]
        self.assertEqual(len({id(deeds) for _, deeds in found}), len(found))
        for _, deeds in found:
            deeds.clear()
        self.assertEqual(stretch_of(COPY, [2]), stretch_by_steps(COPY, [2]))
        self.assertEqual(empty_stretch(COPY), stretch_by_steps(COPY, []))
        whole = stretch_of(COPY, tape([0]))
        written_by(COPY, whole).append(7)
        self.assertEqual(written_by(COPY, whole), [0])


class WrittenByTest(unittest.TestCase):
    def test_examples(self):
        self.assertEqual(written_by(COPY, stretch_of(COPY, tape([0, 0]))), [0, 0])
        self.assertEqual(written_by(TURN_ROUND, stretch_of(TURN_ROUND, tape([0, 1, 1]))), [1, 1, 0])
        self.assertEqual(written_by(TWICE, stretch_of(TWICE, tape([]))), [1, 2])
        # It leaves on the right.
        self.assertIsNone(written_by(COPY, stretch_of(COPY, [0, 2])))
        self.assertIsNone(written_by(COPY, empty_stretch(COPY)))
        # It stops, but only if it is entered in another state, or with other values on its sides.
        self.assertIsNone(written_by(TWICE, stretch_of(TWICE, [1])))
        look = (1, (0, 0, 0), ((0, 0), (0, 1)), ())
        machine = machine_of(1, 1, look, {(0, 0, 2, 0): ("stop", 0, (0,)), (0, 1, 0, 1): ("stop", 0, (2,))})
        self.assertEqual(written_by(machine, letter_stretch(machine, 0)), [2])
        self.assertIsNone(written_by(machine, letter_stretch(machine, 2)))

    def test_as_the_run_writes(self):
        stopped = 0
        for machine in small_machines():
            for length in range(8):
                word = some_numbers(length + machine[1], length, machine[0])
                told = run(machine, word)
                found = written_by(machine, stretch_of(machine, tape(word)))
                self.assertEqual(found, None if told is None else told[0])
                stopped += told is not None and len(told[0]) > 2
        self.assertGreater(stopped, 50)

    def test_all_short_words(self):
        for machine in (COPY, TURN_ROUND, TWICE, TO_AND_FRO):
            for word in rows_of(machine[0], 7 if machine[0] == 1 else 5):
                told = run(machine, word)
                found = written_by(machine, stretch_of(machine, tape(word)))
                self.assertEqual(found, None if told is None else told[0])

    def test_long_words(self):
        word = some_numbers(3, 200, 2)
        self.assertEqual(written_by(TURN_ROUND, stretch_of(TURN_ROUND, tape(word))), word[::-1])
        self.assertEqual(written_by(TWICE, stretch_of(TWICE, tape([0] * 200))), [0] * 400 + [1, 2])


if __name__ == "__main__":
    unittest.main()
