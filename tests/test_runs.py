import copy
import itertools
import unittest

from document import run_by_steps
from examples import composing, counting, keeping_first, keeping_last, some_numbers
from twoways.runs import run, run_on
from twoways.tapes import fault_of, tape_of


def blind(letters):
    """The look that sees nothing, for words of so many letters."""
    return (0, (0,) * (letters + 2), ((0,),), ())


def machine_of(letters, states, look, rules):
    """The machine with these rules, from what it sees to what it does."""
    steps = tuple(sorted(sight + deed for sight, deed in rules.items()))
    return (letters, states, look, 2, (0, 1, 2), steps)


COPY = (1, 1, blind(1), 1, (0,), (
    (0, 0, 0, 0, "right", 0, ()), (0, 0, 1, 0, "stop", 0, ()), (0, 0, 2, 0, "right", 0, (0,)),
))

# Goes to the right end in state 0, and writes each letter on its way back in state 1.
TURN_ROUND = machine_of(2, 2, blind(2), {
    (0, 0, 0, 0): ("right", 0, ()), (0, 0, 1, 0): ("left", 1, ()), (0, 0, 2, 0): ("right", 0, ()),
    (0, 0, 3, 0): ("right", 0, ()), (1, 0, 0, 0): ("stop", 0, ()), (1, 0, 2, 0): ("left", 1, (0,)),
    (1, 0, 3, 0): ("left", 1, (1,)),
})

# Copies the word, goes back, and copies it again.
TWICE = machine_of(1, 3, blind(1), {
    (0, 0, 0, 0): ("right", 0, ()), (0, 0, 1, 0): ("left", 1, ()), (0, 0, 2, 0): ("right", 0, (0,)),
    (1, 0, 0, 0): ("right", 2, ()), (1, 0, 2, 0): ("left", 1, ()), (2, 0, 2, 0): ("right", 2, (0,)),
    (2, 0, 1, 0): ("stop", 0, (1, 2)),
})


class RunTest(unittest.TestCase):
    def assert_run(self, machine, word, expected):
        self.assertEqual(run(machine, word), expected, word)
        self.assertEqual(run_by_steps(machine, tape_of(word)), expected)

    def test_copy(self):
        self.assert_run(COPY, [], ([], []))
        self.assert_run(COPY, [0, 0], ([0, 0], [(1, 0, 0), (2, 0, 0)]))

    def test_turn_round(self):
        self.assert_run(TURN_ROUND, [], ([], []))
        self.assert_run(TURN_ROUND, [0, 1, 1], ([1, 1, 0], [(3, 1, 0), (2, 1, 0), (1, 1, 0)]))

    def test_twice(self):
        self.assert_run(TWICE, [], ([1, 2], [(1, 2, 0), (1, 2, 1)]))
        self.assert_run(TWICE, [0, 0], (
            [0, 0, 0, 0, 1, 2], [(1, 0, 0), (2, 0, 0), (1, 2, 0), (2, 2, 0), (3, 2, 0), (3, 2, 1)]))

    def test_stops_at_once(self):
        for piece, origins in (((), []), ((2,), [(0, 0, 0)]), ((2, 0), [(0, 0, 0), (0, 0, 1)])):
            machine = machine_of(3, 1, blind(3), {(0, 0, 0, 0): ("stop", 0, piece)})
            for word in ([], [0], [2, 1, 0]):
                self.assert_run(machine, word, (list(piece), origins))

    def test_stops_at_each_place(self):
        for place in range(5):
            # The look counts the places to the left and to the right.
            look = (0, (1,) * 4, counting(1, 6)[2], ())
            rules = {(0, at, letter, 4 - at): ("right", 0, (0,)) for at in range(place) for letter in range(4)}
            rules.update({(0, place, letter, 4 - place): ("stop", 1, (1,)) for letter in range(4)})
            machine = machine_of(2, 2, look, rules)
            expected = ([0] * place + [1], [(at, 0, 0) for at in range(place + 1)])
            self.assert_run(machine, [0, 1, 0], expected)
            self.assert_run(machine, [0, 1], None)
            self.assert_run(machine, [0, 1, 0, 0], None)

    def test_leaves_on_the_left(self):
        self.assert_run(machine_of(1, 1, blind(1), {(0, 0, 0, 0): ("left", 0, (0,))}), [], None)
        self.assert_run(machine_of(1, 1, blind(1), {(0, 0, 0, 0): ("left", 0, (0,))}), [0, 0], None)
        back = {
            (0, 0, 0, 0): ("right", 0, ()), (0, 0, 2, 0): ("right", 0, ()), (0, 0, 1, 0): ("left", 1, (0,)),
            (1, 0, 2, 0): ("left", 1, ()), (1, 0, 0, 0): ("left", 1, (0,)),
        }
        # At the place behind the last one stands no stop either.
        back[1, 0, 1, 0] = ("stop", 0, ())
        for word in ([], [0], [0] * 5):
            self.assert_run(machine_of(1, 2, blind(1), back), word, None)

    def test_leaves_on_the_right(self):
        rules = {(0, 0, letter, 0): ("right", 0, (0,)) for letter in range(3)}
        for word in ([], [0], [0] * 200):
            self.assert_run(machine_of(1, 1, blind(1), rules), word, None)

    def test_no_step(self):
        for word in ([], [0]):
            self.assert_run((1, 1, blind(1), 0, (), ()), word, None)
        self.assert_run((*COPY[:5], COPY[5][:2]), [], ([], []))
        self.assert_run((*COPY[:5], COPY[5][:2]), [0], None)
        # Each of the four things that a step is chosen by.
        look = (0, (1, 1, 2), keeping_first(3), ())
        sights = [(0, 0, 0, 2), (1, 1, 2, 1), (2, 1, 1, 0)]
        right = {sights[0]: ("right", 1, ()), sights[1]: ("right", 2, (0,)), sights[2]: ("stop", 0, ())}
        self.assert_run(machine_of(1, 3, look, right), [0], ([0], [(1, 1, 0)]))
        for sight, at in itertools.product(sights, range(4)):
            other = sight[:at] + ((sight[at] + 1) % 3,) + sight[at + 1:]
            wrong = {(other if key == sight else key): deed for key, deed in right.items()}
            self.assert_run(machine_of(1, 3, look, wrong), [0], None)

    def test_goes_round_for_ever(self):
        rules = {(0, 0, 0, 0): ("right", 1, ()), (1, 0, 2, 0): ("left", 0, (0,)), (1, 0, 1, 0): ("left", 0, ())}
        for word in ([], [0], [0, 0]):
            self.assert_run(machine_of(1, 2, blind(1), rules), word, None)
        # From end to end, again and again.
        rules = {(state, 0, letter, 0): ("right" if state == 0 else "left", state, ())
                 for state in (0, 1) for letter in range(3)}
        rules[0, 0, 1, 0] = ("left", 1, (0,))
        rules[1, 0, 0, 0] = ("right", 0, (1,))
        for word in ([], [0], [0] * 200):
            self.assert_run(machine_of(1, 2, blind(1), rules), word, None)

    def test_same_place_in_another_state(self):
        # Four times at the first place of the word, each time in another state.
        rules = {(state, 0, 2, 0): ("left", state, (state % 3, 2)) for state in range(4)}
        rules.update({(state, 0, 0, 0): ("right", state + 1, ()) for state in range(3)})
        rules[0, 0, 0, 0] = ("right", 0, ())
        self.assert_run(machine_of(1, 4, blind(1), rules), [0], None)
        rules = {(state, 0, 2, 0): ("left" if state % 2 else "right", state + 1, (state, 2)) for state in range(3)}
        rules.update({(0, 0, 0, 0): ("right", 0, ()), (1, 0, 1, 0): ("left", 1, ()), (2, 0, 0, 0): ("stop", 0, (2,))})
        self.assert_run(machine_of(1, 3, blind(1), rules), [0], (
            [0, 2, 1, 2, 2], [(1, 0, 0), (1, 0, 1), (1, 1, 0), (1, 1, 1), (0, 2, 0)]))

    def test_look_tells_left_from_right(self):
        # Nearest end mark and farthest letter differ: the first letter to the left, and the first to the right.
        look = (0, (1, 2, 3, 4), keeping_first(5), ())
        self.assertIsNone(fault_of((2, 1, look, 0, (), ())))
        rules = {(0, 0, 0, 3): ("right", 0, (0,)), (0, 1, 2, 4): ("right", 0, (1,)), (0, 1, 3, 2): ("right", 0, (2,)),
                 (0, 1, 1, 0): ("stop", 0, (0,))}
        expected = ([0, 1, 2, 0], [(0, 0, 0), (1, 0, 0), (2, 0, 0), (3, 0, 0)])
        self.assert_run(machine_of(2, 1, look, rules), [0, 1], expected)
        # The last letter to the left, and the last one to the right.
        look = (0, (1, 2, 3, 4), keeping_last(5), ())
        rules = {(0, 0, 0, 2): ("right", 0, (0,)), (0, 1, 2, 2): ("right", 0, (1,)), (0, 3, 3, 2): ("right", 0, (2,)),
                 (0, 4, 1, 0): ("stop", 0, (0,))}
        self.assert_run(machine_of(2, 1, look, rules), [0, 1], expected)

    def test_accepted_values_of_look_do_not_matter(self):
        look = counting(3, 3)
        rules = {(0, left, letter, right): ("stop" if letter == 1 else "right", 0, (left,))
                 for left in range(3) for letter in range(3) for right in range(3)}
        for accepted in ((), (0,), (0, 1, 2)):
            self.assert_run(machine_of(1, 1, look[:3] + (accepted,), rules), [0], (
                [0, 0, 2], [(0, 0, 0), (1, 0, 0), (2, 0, 0)]))

    def test_200_letters(self):
        word = some_numbers(5, 200, 2)
        written, origins = run(TURN_ROUND, word)
        self.assertEqual(written, word[::-1])
        self.assertEqual(origins, [(place, 1, 0) for place in range(200, 0, -1)])
        written, origins = run(TWICE, [0] * 200)
        self.assertEqual(written, [0] * 400 + [1, 2])
        self.assertEqual(len(set(origins)), 402)
        self.assertEqual(run(TWICE, [0] * 5000)[0], [0] * 10000 + [1, 2])

    def test_many_machines(self):
        stopped = 0
        for machine in some_machines(400):
            self.assertIsNone(fault_of(machine))
            for word in ([], [0], [0, 0], [0] * 5, some_numbers(3, 7, machine[0]), some_numbers(8, 11, machine[0])):
                found = run(machine, word)
                self.assertEqual(found, run_by_steps(machine, tape_of(word)))
                if found is not None:
                    written, origins = found
                    stopped += len(written) > 3
                    self.assertEqual(len(written), len(origins))
                    self.assertEqual(len(set(origins)), len(origins))
        self.assertGreater(stopped, 50)

    def test_new_lists(self):
        first, second = run(COPY, [0]), run(COPY, [0])
        self.assertIs(type(first), tuple)
        self.assertEqual([type(part) for part in first], [list, list])
        first[0].append(9)
        first[1].append(9)
        self.assertEqual(second, ([0], [(1, 0, 0)]))
        self.assertEqual(run(COPY, [0]), second)


def some_machines(many):
    """Machines of all sizes whose steps have no plain pattern."""
    numbers = iter(some_numbers(11, many * 2000, 1 << 20))
    found = []
    for at in range(many):
        letters, states = at % 3 + 1, at % 4 + 1
        look = (counting(letters + 2, at % 5 + 1), composing(2, (0, 1, 2, 3, 1)[:letters + 2], ()), blind(letters))[at % 3]
        steps = []
        sights = itertools.product(range(states), range(len(look[2])), range(letters + 2), range(len(look[2])))
        for sight in itertools.islice(sights, 200):
            chance = next(numbers)
            # Mostly forward in even states and back in odd ones.
            move = ("right", "left")[sight[0] % 2] if chance % 5 else ("left", "stop", "right")[chance // 5 % 3]
            piece = tuple(some_numbers(chance, chance // 64 % 3, 3))
            if chance // 16 % 9:
                steps.append(sight + (move, chance // 256 % states, piece))
        found.append((letters, states, look, 2, (0, 1, 2), tuple(steps)))
    return found


class RunOnTest(unittest.TestCase):
    def assert_run_on(self, machine, row, expected):
        self.assertEqual(run_on(machine, row), expected, row)
        self.assertEqual(run_by_steps(machine, row), expected)

    def test_empty_row(self):
        always = machine_of(1, 1, blind(1), {(0, 0, letter, 0): ("stop", 0, ()) for letter in range(3)})
        for machine in (COPY, TURN_ROUND, TWICE, always):
            self.assert_run_on(machine, [], None)

    def test_tape(self):
        for word in ([], [0], [0, 0, 0]):
            self.assertEqual(run_on(COPY, tape_of(word)), run(COPY, word))

    def test_no_end_marks(self):
        self.assert_run_on(COPY, [2], None)
        self.assert_run_on(COPY, [2, 2, 1], ([0, 0], [(0, 0, 0), (1, 0, 0)]))
        self.assert_run_on(COPY, [1], ([], []))
        self.assert_run_on(COPY, [2, 2], None)

    def test_end_marks_inside(self):
        self.assert_run_on(COPY, [2, 0, 2, 0, 1, 2, 2], ([0, 0], [(0, 0, 0), (2, 0, 0)]))
        self.assert_run_on(TURN_ROUND, [3, 0, 2, 1], ([0], [(2, 1, 0)]))
        self.assert_run_on(TURN_ROUND, [3, 2, 1], None)

    def test_look_on_rows(self):
        look = counting(4, 5)
        rules = {(0, 0, 3, 3): ("right", 0, (0,)), (0, 3, 3, 0): ("stop", 0, (1,))}
        self.assert_run_on(machine_of(2, 1, look, rules), [3, 3], ([0, 1], [(0, 0, 0), (1, 0, 0)]))
        self.assert_run_on(machine_of(2, 1, look, rules), [3, 2], None)

    def test_many_machines(self):
        for machine in some_machines(200):
            for seed in range(8):
                row = some_numbers(seed, seed + 1, machine[0] + 2)
                self.assertEqual(run_on(machine, row), run_by_steps(machine, row))

    def test_machine_of_a_plan(self):
        # More states, values of look, width and steps than another machine may have.
        look = (0, tuple(range(5)), counting(1, 12)[2], ())
        rules = {}
        for state, left, letter, right in itertools.product(range(9), range(12), range(5), range(12)):
            if letter == 1 or (state == 8 and letter == 0):
                deed = ("left", (state + 1) % 9, (2,)) if letter == 1 and state < 8 else ("stop", 0, (1, 1, 0))
            elif letter == 0 or state % 2 == 0:
                deed = ("right", state + state % 2, (state % 3,) * 5)
            else:
                deed = ("left", state, (left % 3, right % 3, letter % 3, 0))
            rules[state, left, letter, right] = deed
        steps = tuple(sorted(sight + deed for sight, deed in rules.items()))
        machine = (3, 9, look, 5, (0, 1, 2), steps)
        self.assertEqual(len(steps), 9 * 12 * 5 * 12)
        self.assertEqual(fault_of(machine), "states")
        for word in ([], [0], [2, 1], [0, 1, 2, 2, 1, 0, 2]):
            found = run(machine, word)
            self.assertEqual(found, run_by_steps(machine, tape_of(word)))
            self.assertGreater(len(found[0]), 20)

    def test_long_rows(self):
        self.assertEqual(run_on(COPY, [2] * 20000 + [1])[0], [0] * 20000)
        self.assertIsNone(run_on(COPY, [2] * 20000))

    def test_arguments_stay(self):
        machine, row, word = copy.deepcopy(TWICE), [0, 2, 2, 1], [0, 0]
        run_on(machine, row)
        run(machine, word)
        self.assertEqual((machine, row, word), (TWICE, [0, 2, 2, 1], [0, 0]))

    def test_defined_in_their_file(self):
        for function in (run, run_on):
            self.assertEqual(function.__module__, "twoways.runs")


if __name__ == "__main__":
    unittest.main()
