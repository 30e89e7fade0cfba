import itertools
import unittest

from examples import changed, changed_row, counting, keeping_first
from twoways.tapes import fault_of

LETTERS, STATES, LOOK, WIDTH, OUTS, STEPS = range(6)

ONE_STEP = (1, 0, 3, 2, "left", 1, (2, 0))
MACHINE = (
    2, 2, counting(4, 3), 2, (0, 2),
    (
        (0, 0, 0, 0, "right", 1, ()),
        (0, 1, 2, 0, "stop", 0, (0, 0)),
        ONE_STEP,
        (1, 2, 3, 2, "right", 0, (2,)),
    ),
)

# For each word members that are wrong in no other way.
WRONG = (
    ("letters", LETTERS, (0, -1, 4, 10 ** 20)),
    ("states", STATES, (0, -1, 5, 10 ** 20)),
    ("look", LOOK, (
        counting(3, 3), counting(5, 3), counting(4, 7), changed(counting(4, 3), 0, 3),
        changed(counting(4, 3), 2, ()), changed(counting(4, 3), 3, (1, 0)),
        changed(counting(4, 3), 2, changed_row(counting(4, 3)[2], 1, 1, 1)), (),
    )),
    ("width", WIDTH, (-1, 3, 10 ** 20)),
    ("outs", OUTS, ((0, 0, 2), (0, 2, 2), (2, 0), (-1, 0, 2), (0, 2, 3), (0, 10 ** 20), (0, 1, 2, 2))),
    ("steps", STEPS, (
        ((),), (ONE_STEP[:6],), (ONE_STEP + (0,),), (ONE_STEP, changed(ONE_STEP, 0, 2)),
    )),
    ("order", STEPS, (
        (ONE_STEP, ONE_STEP), (MACHINE[STEPS][1], MACHINE[STEPS][0]),
        (MACHINE[STEPS][0], ONE_STEP, ONE_STEP[:4] + ("right", 1, ())),
    )),
)


def with_step(step):
    return changed(MACHINE, STEPS, (step,))


def many_steps(count):
    """So many steps in order for 4 states, 6 values of look and 5 tape letters."""
    firsts = itertools.product(range(4), range(6), range(5), range(6))
    return tuple(first + ("right", 0, ()) for first in itertools.islice(firsts, count))


class ValidMachineTest(unittest.TestCase):
    def assert_valid(self, machine):
        self.assertIsNone(fault_of(machine), machine)

    def test_the_example(self):
        self.assert_valid(MACHINE)

    def test_letters_states_and_looks(self):
        for letters, states, values in itertools.product((1, 2, 3), (1, 2, 3, 4), range(1, 7)):
            look = counting(letters + 2, values)
            last = (states - 1, values - 1, letters + 1, values - 1, "stop", states - 1, (2, 1))
            for steps in ((), ((0, 0, 0, 0, "left", 0, ()),), (last,)):
                self.assert_valid((letters, states, look, 2, (1, 2), steps))

    def test_look_that_accepts(self):
        self.assert_valid(changed(MACHINE, LOOK, changed(counting(4, 3), 3, (0, 2))))

    def test_width_and_outs(self):
        for width in (0, 1, 2):
            for size in range(4):
                for outs in itertools.combinations(range(3), size):
                    for piece in itertools.product(outs, repeat=width):
                        step = changed(ONE_STEP, 6, piece)
                        self.assert_valid((2, 2, counting(4, 3), width, outs, (step,)))
                    self.assert_valid((2, 2, counting(4, 3), width, outs, (changed(ONE_STEP, 6, ()),)))

    def test_many_steps(self):
        self.assert_valid((3, 4, counting(5, 6), 0, (), many_steps(200)))

    def test_steps_that_ascend_in_one_member(self):
        step = (0, 0, 0, 0, "stop", 1, (2, 2))
        for at, worth in ((0, 1), (1, 2), (2, 3), (3, 2)):
            after = changed((0, 0, 0, 0, "left", 0, ()), at, worth)
            self.assert_valid(changed(MACHINE, STEPS, (step, after)))


class MachineFaultTest(unittest.TestCase):
    def assert_fault(self, machine, word):
        self.assertEqual(fault_of(machine), word, machine)

    def test_each_word_alone(self):
        for word, at, members in WRONG:
            for member in members:
                self.assert_fault(changed(MACHINE, at, member), word)

    def test_the_earlier_of_two_words(self):
        for early, late in itertools.combinations(WRONG, 2):
            if early[1] == late[1]:
                continue
            for first, second in itertools.product(early[2], late[2]):
                machine = changed(changed(MACHINE, late[1], second), early[1], first)
                self.assert_fault(machine, early[0])

    def test_steps_before_order(self):
        good, later = MACHINE[STEPS][:2]
        for steps in ((later, good, ()), ((), later, good), (good, good, changed(ONE_STEP, 5, 2))):
            self.assert_fault(changed(MACHINE, STEPS, steps), "steps")
        crowd = many_steps(200)
        machine = (3, 4, counting(5, 6), 0, (), crowd[1:] + crowd[:1])
        self.assert_fault(machine, "order")
        self.assert_fault(changed(machine, STEPS, crowd + crowd[:1]), "steps")

    def test_values_of_look(self):
        for values, expected in ((5, None), (6, None), (7, "look"), (300, "look"), (301, "look")):
            look = (0, (1, 0, 1, 2), keeping_first(values), ())
            machine = (2, 1, look, 0, (), ())
            self.assert_fault(machine, expected)

    def test_look_of_another_number_of_letters(self):
        for letters in (1, 2, 3):
            for count in range(1, 8):
                machine = (letters, 1, counting(count, 2), 0, (), ())
                self.assert_fault(machine, None if count == letters + 2 else "look")

    def test_each_fault_of_a_look(self):
        good = (0, (1, 2, 0, 1), keeping_first(3), ())
        self.assert_fault(changed(MACHINE, LOOK, good), None)
        rows = good[2]
        wrong = [
            (0, -1), (0, 3), (1, ()), (1, (0, 0, 0, 3)), (1, (-1, 0, 0, 0)), (2, ()), (2, rows[:2]),
            (2, changed(rows, 2, ())), (2, changed_row(rows, 2, 2, 3)), (2, changed_row(rows, 0, 0, -1)),
            (3, (3,)), (3, (-1,)), (3, (1, 1)), (3, (1, 0)), (0, 1), (2, changed_row(rows, 0, 2, 1)),
            (2, changed_row(rows, 2, 0, 1)), (2, changed_row(rows, 1, 1, 2)),
        ]
        for at, member in wrong:
            self.assert_fault(changed(MACHINE, LOOK, changed(good, at, member)), "look")
        for size in range(4):
            self.assert_fault(changed(MACHINE, LOOK, good[:size]), "look")
        self.assert_fault(changed(MACHINE, LOOK, good + (0,)), "look")

    def test_number_of_steps(self):
        machine = (3, 4, counting(5, 6), 0, (), ())
        for count, expected in ((0, None), (199, None), (200, None), (201, "steps"), (400, "steps")):
            self.assert_fault(changed(machine, STEPS, many_steps(count)), expected)

    def test_bounds_of_the_members_of_a_step(self):
        # The machine has 2 states, 3 values of look, and 4 tape letters.
        for at, bound in ((0, 2), (1, 3), (2, 4), (3, 3), (5, 2)):
            for member in range(bound):
                self.assert_fault(with_step(changed(ONE_STEP, at, member)), None)
            for member in (-1, -bound, bound, bound + 1, 10 ** 20):
                self.assert_fault(with_step(changed(ONE_STEP, at, member)), "steps")

    def test_a_later_step(self):
        for at in range(4):
            steps = changed(MACHINE[STEPS], at, changed(MACHINE[STEPS][at], 5, 2))
            self.assert_fault(changed(MACHINE, STEPS, steps), "steps")

    def test_moves(self):
        for move in ("left", "right", "stop"):
            self.assert_fault(with_step(changed(ONE_STEP, 4, move)), None)
        for move in ("", "Left", "lef", "righ", "stops", "left ", "up", 0, 1, (), ("left",), None):
            self.assert_fault(with_step(changed(ONE_STEP, 4, move)), "steps")

    def test_step_too_short_or_too_long(self):
        for size in range(7):
            self.assert_fault(with_step(ONE_STEP[:size]), "steps")
        self.assert_fault(with_step(ONE_STEP + ((),)), "steps")
        self.assert_fault(with_step(ONE_STEP + ONE_STEP), "steps")

    def test_members_of_another_kind(self):
        for at in (0, 1, 2, 3, 5):
            for member in ("0", "", (), (0,), None, True, False):
                self.assert_fault(with_step(changed(ONE_STEP, at, member)), "steps")
        for piece in (0, 2, "", "0", None, True, [0], ("0",), ((),), ((0,),), (None,), (False,)):
            self.assert_fault(with_step(changed(ONE_STEP, 6, piece)), "steps")
        for step in (0, "stop", "sevenly", None, list(ONE_STEP)):
            self.assert_fault(with_step(step), "steps")

    def test_letters_of_a_piece(self):
        for outs in ((), (0,), (2,), (0, 2), (0, 1, 2)):
            machine = changed(MACHINE, OUTS, outs)
            for letter in (-1, 0, 1, 2, 3, 10 ** 20):
                for piece in ((letter,), (letter, letter)):
                    expected = None if letter in outs else "steps"
                    steps = (changed(ONE_STEP, 6, piece),)
                    self.assert_fault(changed(machine, STEPS, steps), expected)
        self.assert_fault(with_step(changed(ONE_STEP, 6, (0, 1))), "steps")
        self.assert_fault(with_step(changed(ONE_STEP, 6, (1, 0))), "steps")

    def test_length_of_a_piece(self):
        for width in (0, 1, 2):
            machine = changed(MACHINE, WIDTH, width)
            for length in range(5):
                steps = (changed(ONE_STEP, 6, (2,) * length),)
                expected = None if length <= width else "steps"
                self.assert_fault(changed(machine, STEPS, steps), expected)

    def test_same_first_four_members(self):
        first = ONE_STEP[:4]
        ends = sorted([("left", 0, ()), ("left", 1, ()), ("right", 0, ()), ("stop", 0, ()), ("stop", 0, (0,))])
        for end, other in itertools.product(ends, ends):
            steps = (first + end, first + other)
            self.assert_fault(changed(MACHINE, STEPS, steps), "order")

    def test_steps_that_do_not_ascend(self):
        for at in range(4):
            low = (0, 0, 0, 0, "left", 0, ())
            high = changed(low, at, 1)
            self.assert_fault(changed(MACHINE, STEPS, (low, high)), None)
            self.assert_fault(changed(MACHINE, STEPS, (high, low)), "order")
        # Earlier members count before later ones.
        steps = ((0, 2, 3, 2, "left", 0, ()), (1, 0, 0, 0, "left", 0, ()))
        self.assert_fault(changed(MACHINE, STEPS, steps), None)
        self.assert_fault(changed(MACHINE, STEPS, steps[::-1]), "order")
        for at in range(3):
            steps = list(MACHINE[STEPS])
            steps[at], steps[at + 1] = steps[at + 1], steps[at]
            self.assert_fault(changed(MACHINE, STEPS, tuple(steps)), "order")
            doubled = MACHINE[STEPS][:at + 1] + MACHINE[STEPS][at:]
            self.assert_fault(changed(MACHINE, STEPS, doubled), "order")

    def test_machine_of_a_plan_is_no_exception(self):
        step = (8, 0, 0, 0, "stop", 0, (0, 0, 0))
        machine = (1, 9, counting(3, 8), 3, (0,), (step,))
        self.assert_fault(machine, "states")
        self.assert_fault(changed(machine, STATES, 4), "look")
        self.assert_fault(changed(changed(machine, STATES, 4), LOOK, counting(3, 6)), "width")

    def test_what_is_no_machine_raises_nothing(self):
        for machine in ((), MACHINE[:5], MACHINE + (0,)):
            self.assert_fault(machine, "letters")

    def test_arguments_stay(self):
        kept = tuple(MACHINE)
        fault_of(MACHINE)
        self.assertEqual(MACHINE, kept)

    def test_defined_in_its_file(self):
        self.assertEqual(fault_of.__module__, "twoways.tapes")


if __name__ == "__main__":
    unittest.main()
