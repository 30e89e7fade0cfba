import copy
import itertools
import unittest

from document_plans import accepted_by_watching, many_stretch_values, with_sets
from examples import changed, counting
from machine_examples import (
    ALL_BUT_ONE, AROUND_300_VALUES, AT_ONCE, BACKWARDS, NEVER_STOPS, NO_STEPS, SILENT, TO_THE_END, small_machines,
)
from sentence_examples import choices_of_sets, rows_of
from test_runs import COPY, TURN_ROUND, TWICE, blind, machine_of
from twoways.errors import TooManyValues
from twoways.marked import width
from twoways.plan_of import plan_for
from twoways.plans import planned
from twoways.readers import accepts, fault
from twoways.runs import run
from twoways.tapes import fault_of, tape_of
from twoways.values import least


def made_plan_of(machine):
    """The plan, or None if there are too many values."""
    try:
        return plan_for(machine)
    except TooManyValues:
        return None


def copy_of(machine, state, index, letter):
    _, _, _, longest, outs, _ = machine
    return (state * longest + index) * len(outs) + outs.index(letter)


class PlanForTest(unittest.TestCase):
    def assert_plan(self, machine, plan, longest):
        """The plan has all its parts, and tells for each word what the run writes. Returns how many letters."""
        letters, copies, domain, place, ahead = plan
        _, states, _, longest_piece, outs, _ = machine
        self.assertEqual(letters, machine[0])
        self.assertEqual(copies, tuple(l for q in range(states) for j in range(longest_piece) for l in outs))
        self.assertEqual([len(place), len(ahead), *map(len, ahead)], [len(copies)] * (len(copies) + 2))
        many = 0
        for word in rows_of(letters, longest):
            told = run(machine, word)
            self.assertIs(accepts(domain, tape_of(word)), told is not None)
            found = planned(plan, word)
            if told is None:
                self.assertIsNone(found)
            else:
                origins = [(x, copy_of(machine, state, index, letter))
                           for letter, (x, state, index) in zip(*told)]
                self.assertEqual(found, (told[0], origins), word)
                many += len(told[0])
        return many

    def assert_least_readers(self, plan):
        letters, _, domain, place, ahead = plan
        for sets, readers in ((0, [domain]), (1, place), (2, [reader for row in ahead for reader in row])):
            for reader in readers:
                self.assertIsNone(fault((letters + 2) * width(sets), reader))
                self.assertEqual(least(reader), reader)

    def test_copies(self):
        for states, longest, outs, copies in (
            (1, 1, (2,), (2,)), (1, 2, (0, 2), (0, 2, 0, 2)), (2, 1, (0, 1), (0, 1, 0, 1)), (1, 0, (0, 1), ()),
            (2, 2, (), ()), (4, 2, (0, 1, 2), (0, 1, 2) * 8),
        ):
            self.assertEqual(plan_for((1, states, blind(1), longest, outs, ()))[:2], (1, copies))
        self.assertEqual(plan_for(SILENT)[:2], (2, (0, 1, 2, 0, 1, 2)))

    def test_copy(self):
        plan = plan_for(COPY)
        self.assertEqual(planned(plan, [0, 0]), ([0, 0], [(1, 0), (2, 0)]))
        self.assert_least_readers(plan)
        self.assertEqual(self.assert_plan(COPY, plan, 6), 21)

    def test_there_and_back(self):
        plan = plan_for(TO_THE_END)
        self.assertEqual(planned(plan, [0, 0]), ([0, 0, 0], [(0, 0), (3, 0), (2, 1)]))
        self.assertEqual(self.assert_plan(TO_THE_END, plan, 6), 20)
        self.assert_least_readers(plan)

    def test_copies_that_are_never_written(self):
        machine = changed(COPY, 4, (0, 2))
        plan = plan_for(machine)
        self.assertEqual(plan[3][1], (0, (0,) * 6, ((0,),), ()))
        self.assertEqual([plan[4][c][d] for c, d in ((0, 1), (1, 0), (1, 1))], [(0, (0,) * 12, ((0,),), ())] * 3)
        self.assertEqual(plan[4][0][0], plan_for(COPY)[4][0][0])
        self.assertEqual(self.assert_plan(machine, plan, 5), 15)

    def test_never_stops(self):
        for machine in (NEVER_STOPS, NO_STEPS):
            plan = plan_for(machine)
            self.assertEqual(plan[2], (0, (0, 0, 0), ((0,),), ()))
            self.assertEqual(self.assert_plan(machine, plan, 4), 0)
            self.assertEqual({reader[2:] for reader in plan[3]}, {(((0,),), ())})

    def test_stops_at_once(self):
        plan = plan_for(AT_ONCE)
        self.assertEqual(self.assert_plan(AT_ONCE, plan, 3), 30)
        self.assert_least_readers(plan)
        self.assertEqual(planned(plan, [1]), ([2, 0], [(0, 2), (0, 3)]))

    def test_writes_nothing(self):
        plan = plan_for(SILENT)
        self.assertEqual(self.assert_plan(SILENT, plan, 4), 0)
        for word in rows_of(2, 3):
            self.assertEqual(planned(plan, word), ([], []))

    def test_looks(self):
        plan = plan_for(ALL_BUT_ONE)
        self.assertEqual(planned(plan, [0, 0, 0]), ([1, 1], [(2, 0), (3, 0)]))
        self.assertEqual(self.assert_plan(ALL_BUT_ONE, plan, 5), 10)
        self.assert_least_readers(plan)

    def test_small_machines(self):
        made, many, letters = 0, 0, {1: 0, 2: 0}
        for machine in small_machines(6):
            self.assertIsNone(fault_of(machine))
            plan = made_plan_of(machine)
            many += 1
            if plan is not None:
                made += 1
                self.assert_least_readers(plan)
                letters[machine[1]] += self.assert_plan(machine, plan, 4 if machine[0] == 1 else 3)
        self.assertGreater(made, many // 3)
        self.assertGreater(min(letters.values()), 500)

    def test_readers_of_rows_that_are_no_tapes(self):
        machines = [COPY, TO_THE_END, ALL_BUT_ONE, AT_ONCE, NEVER_STOPS] + [
            machine for machine in small_machines(2) if machine[0] == 1 and made_plan_of(machine) is not None][::5]
        for machine in machines:
            _, copies, domain, place, ahead = plan_for(machine)
            for row in rows_of(machine[0] + 2, 3):
                self.assertIs(accepts(domain, row), accepted_by_watching(machine, [], row, []))
                for sets in choices_of_sets(1, len(row)):
                    for c, reader in enumerate(place):
                        expected = accepted_by_watching(machine, [c], row, sets)
                        self.assertIs(accepts(reader, with_sets(row, *sets)), expected)
            for row in rows_of(machine[0] + 2, 2):
                for sets in choices_of_sets(2, len(row)):
                    for c, d in itertools.product(range(len(copies)), repeat=2):
                        expected = accepted_by_watching(machine, [c, d], row, sets)
                        self.assertIs(accepts(ahead[c][d], with_sets(row, *sets)), expected)

    def test_one_step_writes_two_copies(self):
        machine = machine_of(1, 1, blind(1), {
            (0, 0, 0, 0): ("right", 0, (1, 1)), (0, 0, 2, 0): ("right", 0, (2, 1)), (0, 0, 1, 0): ("stop", 0, ())})
        plan = plan_for(machine)
        self.assertEqual(planned(plan, [0]), ([1, 1, 2, 1], [(0, 1), (0, 4), (1, 2), (1, 4)]))
        self.assertEqual(self.assert_plan(machine, plan, 5), 42)
        # No copy at a place is ahead of itself.
        for c in range(6):
            self.assertFalse(accepts(plan[4][c][c], with_sets([0, 2, 1], [0], [0])))

    def test_too_many_values(self):
        looking = (0, (1, 1, 1), counting(1, 6)[2], ())
        steps = tuple((0, left, letter, right, "stop" if letter == 1 else "right", 0, (left % 2,))
                      for left in range(6) for letter in range(3) for right in range(6))
        for machine in (BACKWARDS, TURN_ROUND, TWICE, (1, 1, looking, 1, (0, 1), steps)):
            self.assertIsNone(fault_of(machine))
            with self.assertRaises(TooManyValues):
                plan_for(machine)

    def test_just_as_many_values(self):
        compared = {True: 0, False: 0}
        for number, machine in enumerate(small_machines(3)):
            states, values = machine[1], len(machine[2][2])
            if number % 5 or machine[0] > 2 or states * values > 2:
                continue
            many = range(states * machine[3] * len(machine[4]))
            watched = [[]] + [[c] for c in many] + [[c, d] for c in many for d in many]
            counts = [many_stretch_values(machine, one, 300) for one in watched[:14]]
            made = made_plan_of(machine) is not None
            if None in counts:
                self.assertFalse(made)
            elif len(watched) <= 14:
                self.assertTrue(made)
            compared[made] += 1
        self.assertGreater(min(compared.values()), 3)

    def test_300_values_and_301(self):
        for machine, expected in AROUND_300_VALUES:
            pairs = itertools.product(range(2), repeat=2)
            watched = [[], [0], [1], *map(list, pairs)]
            self.assertEqual(max(many_stretch_values(machine, one, 400) for one in watched), expected)
            if expected <= 300:
                self.assert_plan(machine, plan_for(machine), 5)
            else:
                with self.assertRaises(TooManyValues):
                    plan_for(machine)

    def test_arguments_stay(self):
        machine = copy.deepcopy(TO_THE_END)
        plan_for(machine)
        self.assertEqual(machine, TO_THE_END)


if __name__ == "__main__":
    unittest.main()
