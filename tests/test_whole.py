"""The whole promise: runs, plans, the machines of plans, and edited words all write the same."""

import itertools
import unittest

import plan_examples
from document_plans import tape
from examples import some_numbers
from machine_examples import ALL_BUT_ONE, AT_ONCE, SILENT, TO_THE_END, small_machines
from sentence_examples import rows_of
from test_edited import raised
from test_runs import COPY
from twoways.edited import EditedWord
from twoways.errors import TooManyValues
from twoways.machine_of import machine_for
from twoways.notation import format_machine, parse_machine
from twoways.order import ordered
from twoways.plan_of import plan_for
from twoways.plans import planned, through
from twoways.runs import run
from twoways.sentences import made_plan
from twoways.stretches import stretch_of, written_by


def letters_of(told):
    return None if told is None else told[0]


class WholeTest(unittest.TestCase):
    def test_all_ways_write_the_same_while_a_word_is_edited(self):
        for seed, machine in enumerate((COPY, ALL_BUT_ONE, TO_THE_END, SILENT, AT_ONCE)):
            plan = plan_for(machine)
            numbers = iter(some_numbers(seed, 400, 1 << 20))
            edited = EditedWord(machine, [])
            for _ in range(40):
                length = len(edited.word())
                kind = next(numbers) % 6
                if kind < 3:
                    edited.insert(next(numbers) % (length + 1), [next(numbers) % machine[0]] * (next(numbers) % 4))
                elif kind == 3 and length > 0:
                    edited.remove(next(numbers) % length, 1)
                elif kind == 4:
                    edited.undo()
                else:
                    edited.redo()
                word = edited.word()
                expected = letters_of(run(machine, word))
                self.assertEqual(edited.written(), expected)
                self.assertEqual(letters_of(planned(plan, word)), expected)
                self.assertEqual(written_by(machine, stretch_of(machine, tape(word))), expected)

    def test_plans_of_machines_are_in_order(self):
        found = 0
        for machine in small_machines(6):
            if machine[1] * machine[3] * len(machine[4]) <= 2:
                try:
                    plan = plan_for(machine)
                except TooManyValues:
                    continue
                self.assertIsNone(ordered(plan))
                found += 1
        self.assertGreater(found, 60)

    def test_one_plan_after_another_and_one_machine_after_another(self):
        names = ("LETTERS_PLAN", "MIRRORED_PLAN", "DOUBLED_PLAN", "TWICE_PLAN", "THERE_AND_BACK")
        plans = [made_plan(getattr(plan_examples, name)) for name in names]
        machines = [machine_for(plan) for plan in plans]
        for first, second in itertools.product(range(5), repeat=2):
            for word in rows_of(2, 3):
                between = run(machines[first], word)[0]
                self.assertEqual(through(plans[first], plans[second], word)[0], run(machines[second], between)[0])

    def test_written_machines(self):
        for machine in small_machines(2):
            again = parse_machine(format_machine(machine))
            self.assertEqual(again[:2] + again[3:], machine[:2] + machine[3:])
            for word in rows_of(machine[0], 2):
                self.assertEqual(run(again, word), run(machine, word))

    def test_machines_of_plans_are_not_edited_with(self):
        machine = machine_for(made_plan(plan_examples.COPY_PLAN))
        self.assertEqual(raised(lambda: EditedWord(machine, [])), ("InvalidMachine",))
        self.assertEqual(raised(lambda: parse_machine(format_machine(machine))), ("InvalidMachine",))


if __name__ == "__main__":
    unittest.main()
