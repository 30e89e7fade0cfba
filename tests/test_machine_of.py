import copy
import itertools
import unittest

import plan_examples
from document_plans import TestsOnTape, tape, with_sets
from examples import counting, some_numbers, some_readers
from machine_examples import ALL_BUT_ONE, AT_ONCE, NEVER_STOPS, SILENT, few_copies, small_machines
from plan_examples import INNER, IS_RIGHT, NEVER, NOT_TELLING, TELLING, first_is, some_plans, written_plan
from sentence_examples import rows_of
from test_runs import COPY
from twoways.errors import TooManySteps, TooManyValues
from twoways.machine_of import machine_for, tests_of
from twoways.moves import is_left
from twoways.plan_of import plan_for
from twoways.plans import planned
from twoways.readers import accepts, fault
from twoways.runs import run, run_on
from twoways.sentences import made_plan, sentence_reader
from twoways.stretches import deed, joined, stretch_of, written_by
from twoways.tapes import tape_of
from twoways.values import least


def nothing(count):
    return (0, (0,) * count, ((0,),), ())


def everything(count):
    return (0, (0,) * count, ((0,),), (0,))


def place_with_letter(count, letters):
    """The reader that accepts if there is one marked place and its letter is one of these."""
    values = []
    for letter in range(count):
        values += [0, 1 if letter in letters else 2]
    return (0, tuple(values), ((0, 1, 2), (1, 2, 2), (2, 2, 2)), (1,))


def plans_of_one_copy():
    """All plans of one copy that the interface names."""
    for letters in (1, 2, 3):
        count = letters + 2
        relations = (is_left(count, 0, 1, 2), is_left(count, 1, 0, 2), nothing(4 * count))
        for domain, relation in itertools.product((everything(count), nothing(count)), relations):
            for many in range(count + 1):
                for chosen in itertools.combinations(range(count), many):
                    yield (letters, (letters % 3,), domain, (place_with_letter(count, chosen),), ((relation,),))


def small_plans():
    """The examples with at most two copies, as plans."""
    return [made_plan(written) for written in TELLING + NOT_TELLING if len(written[1]) <= 2]


class TestsOfTest(unittest.TestCase):
    def assert_tests(self, plan, rows):
        count, many = plan[0] + 2, len(plan[1])
        found = tests_of(plan)
        self.assertIs(type(found), list)
        self.assertEqual(len(found), 2 + many + 4 * many * many)
        for test in found:
            self.assertLessEqual(len(test[2]), 300)
            self.assertEqual((len(test[1]), fault(4 * count, test)), (4 * count, None))
        for row in rows:
            on_tape = TestsOnTape(plan, row)
            for x, y in itertools.product(range(len(row)), repeat=2):
                told = [accepts(test, with_sets(row, [x], [y])) for test in found]
                self.assertEqual(told, on_tape.all_tests(x, y), (row, x, y))

    def test_numbers_of_tests(self):
        self.assertEqual(len(tests_of(made_plan(plan_examples.NO_COPIES))), 2)
        self.assertEqual(len(tests_of(made_plan(plan_examples.COPY_PLAN))), 7)
        self.assertEqual(len(tests_of(made_plan(plan_examples.TWICE_PLAN))), 20)

    def test_examples(self):
        for plan in small_plans():
            self.assert_tests(plan, [tape(word) for word in rows_of(plan[0], 3)])

    def test_rows_that_are_no_tapes(self):
        for plan in small_plans():
            self.assert_tests(plan, list(rows_of(plan[0] + 2, 3 if plan[0] == 1 else 2)))

    def test_without_copies(self):
        domain = sentence_reader(4, first_is(3))
        self.assert_tests((2, (), domain, (), ()), list(rows_of(4, 4)))

    def test_many_plans(self):
        for copies, many in ((1, 25), (2, 25)):
            for written in some_plans(many, copies):
                plan = made_plan(written)
                self.assert_tests(plan, [tape(word) for word in rows_of(2, 2)])

    def test_plans_that_say_something_of_more_places(self):
        # Readers without a plain meaning, also for lists with no place or with two places in a set.
        made = 0
        readers = [[reader for reader in some_readers(3 * 2 ** sets) if len(reader[2]) <= 4] for sets in range(3)]
        numbers = iter(some_numbers(41, 1000, 1 << 20))
        for copies in (1, 2) * 10:
            domain, *places = [readers[at > 0][next(numbers) % len(readers[at > 0])] for at in range(copies + 1)]
            ahead = tuple(tuple(readers[2][next(numbers) % len(readers[2])] for _ in range(copies)) for _ in range(copies))
            plan = (1, (0, 1)[:copies], domain, tuple(places), ahead)
            try:
                self.assert_tests(plan, [tape(word) for word in rows_of(1, 3)])
                made += 1
            except TooManyValues:
                pass
        self.assertGreater(made, 10)

    def test_plans_of_machines(self):
        for machine in (COPY, ALL_BUT_ONE):
            plan = plan_for(machine)
            self.assert_tests(plan, [tape(word) for word in rows_of(plan[0], 4)])

    def test_named_plans_of_one_copy(self):
        for at, plan in enumerate(plans_of_one_copy()):
            if at % 7 == 0:
                self.assert_tests(plan, [tape(word) for word in rows_of(plan[0], 2)])
            else:
                self.assertEqual(len(tests_of(plan)), 7)

    def test_too_many_values(self):
        with self.assertRaises(TooManyValues):
            tests_of(TOO_LARGE_RELATION)

    def test_new_lists_and_arguments(self):
        plan = made_plan(plan_examples.DOUBLED_PLAN)
        kept = copy.deepcopy(plan)
        found = tests_of(plan)
        found.clear()
        self.assertEqual(len(tests_of(plan)), 20)
        machine_for(plan)
        self.assertEqual(plan, kept)


def counting_place(many):
    """Whether there is a single marked place, and the number of letters to its left is a multiple of many."""
    # The values are (letters, None), (letters, letters in front of the mark) and one for more marks.
    values = [(n, None) for n in range(many)] + [(n, at) for n in range(many) for at in range(many)] + [None]

    def product(x, y):
        if x is None or y is None or (x[1] is not None and y[1] is not None):
            return None
        at = x[1] if x[1] is not None else None if y[1] is None else (x[0] + y[1]) % many
        return ((x[0] + y[0]) % many, at)

    number = {value: at for at, value in enumerate(values)}
    mul = tuple(tuple(number[product(x, y)] for y in values) for x in values)
    letters = (number[1 % many, None], number[1 % many, 0]) * 3
    return (0, letters, mul, tuple(number[n, 0] for n in range(many)))


def circle(many, accepted):
    """The reader of tapes of one letter that counts all letters."""
    return (0, (1 % many,) * 3, counting(1, many)[2], accepted)


# A copy at places of 13 kinds, and a domain with 300 values.
TOO_LARGE_RELATION = (1, (0,), circle(300, (0,)), (counting_place(13),), ((is_left(3, 0, 1, 2),),))


class MachineForTest(unittest.TestCase):
    def assert_machine(self, plan, machine, words):
        """The machine has the form that it should have, and writes what the plan tells. Returns how many are told."""
        letters, copies, domain, _, _ = plan
        many = len(copies)
        self.assertEqual((machine[0], machine[3]), (letters, many + 1))
        self.assertEqual(machine[4], tuple(sorted(set(copies))) if copies else (0,))
        self.assert_form(machine, many)
        told = 0
        for word in words:
            expected = planned(plan, word)
            found = run(machine, word)
            if expected is not None:
                told += 1
                self.assertIsNotNone(found, word)
                self.assertEqual(found[0], expected[0], word)
                self.assertEqual([origin[0] for origin in found[1]], [origin[0] for origin in expected[1]], word)
            elif not accepts(domain, tape_of(word)):
                self.assertIsNone(found, word)
        return told

    def assert_form(self, machine, many):
        letters, states, look, longest, outs, steps = machine
        self.assertIsNone(fault(letters + 2, look))
        self.assertEqual(look[3], ())
        self.assertEqual((states - 1) % (2 * many * many) if many else states - 1, 0)
        if many:
            self.assertGreater(states, 1)
        self.assertIs(type(steps), tuple)
        self.assertLessEqual(len(steps), 20000)
        sights = [step[:4] for step in steps]
        self.assertEqual(sights, sorted(set(sights)))
        for state, left, letter, right, move, after, piece in steps:
            self.assertTrue(0 <= state < states and 0 <= after < states and 0 <= letter < letters + 2)
            self.assertTrue(0 <= left < len(look[2]) and 0 <= right < len(look[2]))
            self.assertIn(move, ("left", "right", "stop"))
            self.assertTrue(len(piece) <= longest and set(piece) <= set(outs))
            self.assertTrue(type(piece) is tuple and (move != "stop" or after == 0))

    def test_without_copies(self):
        machine = machine_for(made_plan(plan_examples.NO_COPIES))
        self.assertEqual(machine[:2] + machine[3:5], (2, 1, 1, (0,)))
        self.assertEqual(machine[2], (0, (0,) * 4, ((0,),), ()))
        self.assertEqual(machine[5], tuple((0, 0, letter, 0, "stop", 0, ()) for letter in range(4)))
        for domain in some_readers(3):
            plan = (1, (), domain, (), ())
            self.assertEqual(self.assert_machine(plan, machine_for(plan), rows_of(1, 4)), len(
                [word for word in rows_of(1, 4) if accepts(domain, tape(word))]))

    def test_without_copies_the_look_is_that_of_the_domain(self):
        domain = sentence_reader(4, first_is(3))
        machine = machine_for((2, (), domain, (), ()))
        self.assertEqual(machine[2], least(domain)[:3] + ((),))
        self.assert_machine((2, (), domain, (), ()), machine, rows_of(2, 4))

    def test_examples(self):
        told, names = 0, ("COPY_PLAN TURNED_PLAN LETTERS_PLAN MIRRORED_PLAN DOUBLED_PLAN DOUBLED_BACK TWICE_PLAN "
                          "THERE_AND_BACK NONE_STANDS NEITHER_AHEAD EACH_AHEAD NEXT_ONLY SAME_PLACE_NEITHER "
                          "SAME_PLACE_EACH")
        for name in names.split():
            plan = made_plan(getattr(plan_examples, name))
            told += self.assert_machine(plan, machine_for(plan), rows_of(plan[0], 4))
        self.assertGreater(told, 200)

    def test_copy_and_turned(self):
        machine = machine_for(made_plan(plan_examples.COPY_PLAN))
        self.assertEqual([origin[0] for origin in run(machine, [0, 1, 0])[1]], [1, 2, 3])
        machine = machine_for(made_plan(plan_examples.TURNED_PLAN))
        self.assertEqual([origin[0] for origin in run(machine, [0, 1, 0])[1]], [3, 2, 1])
        word = some_numbers(3, 200, 2)
        self.assertEqual(run(machine_for(made_plan(plan_examples.MIRRORED_PLAN)), word)[0], word[::-1])

    def test_two_copies_at_one_place(self):
        machine = machine_for(made_plan(plan_examples.DOUBLED_PLAN))
        written, origins = run(machine, [0, 1])
        self.assertEqual(written, [0, 1, 0, 1])
        # Both are written in one step.
        self.assertEqual([(place, index) for place, _, index in origins], [(1, 0), (1, 1), (2, 0), (2, 1)])

    def test_there_and_back_again(self):
        machine = machine_for(made_plan(plan_examples.THERE_AND_BACK))
        written, origins = run(machine, [0, 1, 1])
        self.assertEqual(written, [0, 0, 0, 1, 1, 1])
        self.assertEqual([place for place, _, _ in origins], [1, 2, 3, 3, 2, 1])

    def test_does_not_stop_where_the_plan_does_not_speak(self):
        for domain in (nothing(3), circle(2, (0,)), circle(2, (1,)), circle(3, (0, 1))):
            plan = made_plan(written_plan(1, [0], [INNER], [[IS_RIGHT]]))
            plan = (1, (0,), domain, *plan[3:])
            self.assertGreater(len([word for word in rows_of(1, 5) if not accepts(domain, tape(word))]), 1)
            self.assert_machine(plan, machine_for(plan), rows_of(1, 5))
        plan = made_plan(written_plan(1, [1, 0], [NEVER, NEVER], [[NEVER] * 2] * 2, first_is(2)))
        machine = machine_for(plan)
        self.assertIsNone(run(machine, []))
        self.assertEqual(run(machine, [0]), ([], []))

    def test_many_plans(self):
        told, made = 0, 0
        for copies, many in ((1, 60), (2, 60)):
            for written in some_plans(many, copies):
                plan = made_plan(written)
                try:
                    machine = machine_for(plan)
                except (TooManyValues, TooManySteps):
                    continue
                made += 1
                told += self.assert_machine(plan, machine, rows_of(2, 4))
        self.assertGreater(made, 30)
        self.assertGreater(told, 300)

    def test_plans_of_any_readers(self):
        made, told = 0, 0
        readers = [[reader for reader in some_readers(3 * 2 ** sets) if len(reader[2]) <= 3] for sets in range(3)]
        numbers = iter(some_numbers(43, 1000, 1 << 20))
        for copies in (1, 1, 2) * 25:
            domain, *places = [readers[at > 0][next(numbers) % len(readers[at > 0])] for at in range(copies + 1)]
            ahead = tuple(tuple(readers[2][next(numbers) % len(readers[2])] for _ in range(copies)) for _ in range(copies))
            plan = (1, (0, 2)[:copies], domain, tuple(places), ahead)
            try:
                machine = machine_for(plan)
            except (TooManyValues, TooManySteps):
                continue
            made += 1
            told += self.assert_machine(plan, machine, rows_of(1, 5))
        self.assertGreater(made, 20)
        self.assertGreater(told, 20)

    def test_named_plans_of_one_copy(self):
        many = 0
        for plan in plans_of_one_copy():
            self.assert_machine(plan, machine_for(plan), rows_of(plan[0], 3))
            many += 1
        self.assertEqual(many, 6 * (8 + 16 + 32))

    def test_named_plans_without_copies(self):
        # A domain with 50 values, of words of three letters and of all others.
        for many, accepted in ((50, tuple(range(50))), (50, tuple(range(1, 50))), (50, ()), (50, (0,)), (49, (1, 5))):
            domain = (0, (1, 1, 0, 2, 3), counting(5, many)[2], accepted)
            plan = (3, (), domain, (), ())
            self.assert_machine(plan, machine_for(plan), rows_of(3, 3))
        # What is not least may have any number of values.
        self.assertEqual(len(machine_for((1, (), circle(300, tuple(range(300))), (), ()))[5]), 3)

    def test_too_many_values(self):
        with self.assertRaises(TooManyValues):
            machine_for(TOO_LARGE_RELATION)
        # The sight alone: at least 200 values of the domain, once with the set of x and once without.
        plan = (1, (0,), circle(200, (0,)), (place_with_letter(3, (2,)),), ((is_left(3, 0, 1, 2),),))
        self.assertEqual(len(tests_of(plan)), 7)
        with self.assertRaises(TooManyValues):
            machine_for(plan)

    def test_too_many_steps(self):
        for many, accepted in ((83, range(1, 83)), (84, range(83)), (300, range(1, 300)), (300, range(23))):
            with self.assertRaises(TooManySteps):
                machine_for((1, (), circle(many, tuple(accepted)), (), ()))
        with self.assertRaises(TooManySteps):
            machine_for(made_plan(plan_examples.CIRCLE))

    def test_just_20000_steps(self):
        # The look has just the values of the domain; there is a step for each letter between two values that the domain
        # accepts, and so for each letter, left value and accepted value.
        for many, accepted, steps in ((100, 49, 19600), (100, 50, 20000), (125, 40, 20000), (300, 16, 19200)):
            domain = (0, (1,) * 4, counting(1, many)[2], tuple(range(accepted)))
            self.assertEqual(len(machine_for((2, (), domain, (), ()))[5]), steps)
        for many, accepted in ((100, 51), (125, 41), (300, 17)):
            domain = (0, (1,) * 4, counting(1, many)[2], tuple(range(accepted)))
            with self.assertRaises(TooManySteps):
                machine_for((2, (), domain, (), ()))
        # 59 of 113 values, and three letters: one step too many.
        self.assertEqual(59 * 113 * 3, 20001)
        with self.assertRaises(TooManySteps):
            machine_for((1, (), circle(113, tuple(range(59))), (), ()))

    def test_stretches_of_the_machine(self):
        machine = machine_for(made_plan(plan_examples.TURNED_PLAN))
        self.assertGreater(machine[1], 4)
        row = tape([0, 1, 0])
        whole = stretch_of(machine, row)
        self.assertEqual(written_by(machine, whole), [2, 2, 2])
        self.assertEqual(joined(machine, stretch_of(machine, row[:2]), stretch_of(machine, row[2:])), whole)
        empty = machine[2][0]
        self.assertEqual(deed(machine, row, empty, empty, "left", 0), ("stop", (2, 2, 2)))
        self.assertEqual(run_on(machine, row), run(machine, [0, 1, 0]))


class ThereAndBackTest(unittest.TestCase):
    def assert_there_and_back(self, machine, longest):
        """The machine of the plan of the machine stops on the same words and writes the same from the same places."""
        back = machine_for(plan_for(machine))
        for word in rows_of(machine[0], longest):
            told, found = run(machine, word), run(back, word)
            self.assertEqual(told is None, found is None, word)
            if told is not None:
                self.assertEqual(found[0], told[0], word)
                self.assertEqual([place for place, _, _ in found[1]], [place for place, _, _ in told[1]], word)
                self.assertEqual(written_by(machine, stretch_of(machine, tape(word))), found[0])

    def test_examples(self):
        self.assert_there_and_back(COPY, 6)
        for machine in (SILENT, AT_ONCE, NEVER_STOPS):
            outs = tuple(sorted({letter for step in machine[5] for letter in step[6]}))
            width = max(len(step[6]) for step in machine[5])
            if machine[1] * width * len(outs) <= 2:
                self.assert_there_and_back((*machine[:3], width, outs, machine[5]), 4)

    def test_few_copies(self):
        compared = 0
        for machine in few_copies():
            try:
                self.assert_there_and_back(machine, 4)
                compared += 1
            except (TooManyValues, TooManySteps):
                pass
        self.assertGreater(compared, 40)

    def test_small_machines(self):
        compared = {1: 0, 2: 0}
        for machine in small_machines(12):
            if machine[1] * machine[3] * len(machine[4]) <= 2:
                try:
                    self.assert_there_and_back(machine, 4 if machine[0] == 1 else 3)
                    compared[machine[1]] += 1
                except (TooManyValues, TooManySteps):
                    pass
        self.assertGreater(min(compared.values()), 20)

    def test_plans_there_and_back(self):
        # The plan of the machine of a plan has copies for each of its many states, so only of one without any.
        plan = (1, (), circle(2, (0,)), (), ())
        back = plan_for(machine_for(plan))
        for word in rows_of(1, 6):
            self.assertEqual(planned(back, word), planned(plan, word))


if __name__ == "__main__":
    unittest.main()
