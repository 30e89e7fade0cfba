import copy
import itertools
import unittest

from examples import changed, changed_row, composing, counting, keeping_first, keeping_last
from twoways.errors import InvalidLetter, InvalidLine, InvalidMachine, WordTooLong
from twoways.notation import format_machine, format_word, parse_machine, parse_word
from twoways.tapes import fault_of

LETTERS, STATES, LOOK, WIDTH, OUTS, STEPS = range(6)

MACHINE = (
    2, 3, (0, (1, 2, 0, 1), keeping_last(3), ()), 2, (0, 2),
    (
        (0, 0, 0, 2, "right", 1, ()),
        (0, 1, 3, 0, "left", 2, (2,)),
        (1, 0, 2, 1, "stop", 0, (0, 2)),
        (2, 2, 1, 2, "right", 2, (2, 2)),
    ),
)
TEXT = "\n".join([
    "machine 2 3 2 0 2",
    "empty 0",
    "letters 1 2 0 1",
    "row 0 1 2",
    "row 1 1 2",
    "row 2 1 2",
    "step 0 0 0 2 right 1",
    "step 0 1 3 0 left 2 2",
    "step 1 0 2 1 stop 0 0 2",
    "step 2 2 1 2 right 2 2 2",
])
LINES = TEXT.split("\n")

# Signs that Python may take for digits or for blanks, and others.
ODD_SIGNS = (
    "\u00b2", "\u0661", "\u0967", "\uff10", "\u2460", "\u00bd", "\u4e00", "\U0001d7d8", "\u3007", "\u2070", " ", "\t",
    "\n", "\r", "\x00", "\x0b", "\x1c", "\u00a0", "\u2028", "\u3000", "\ufeff", "\ud800", "-", "+", "_", ".", "a", "",
)


class FormatWordTest(unittest.TestCase):
    def test_document_example(self):
        self.assertEqual(format_word([0, 2]), "02")

    def test_empty_word(self):
        self.assertEqual(format_word([]), "")

    def test_letters(self):
        self.assertEqual(format_word([2, 1, 0, 0, 1]), "21001")
        self.assertEqual(format_word([0] * 200), "0" * 200)
        self.assertEqual(format_word([1] * 201), "1" * 201)


class ParseWordTest(unittest.TestCase):
    def assert_letter(self, letters, text, place):
        with self.assertRaises(InvalidLetter) as caught:
            parse_word(letters, text)
        self.assertEqual(caught.exception.place, place, (letters, text))

    def test_document_example(self):
        self.assertEqual(parse_word(3, "02"), [0, 2])

    def test_empty_word(self):
        for letters in (1, 2, 3):
            self.assertEqual(parse_word(letters, ""), [])

    def test_one_after_the_other(self):
        for letters in (1, 2, 3):
            for length in range(6):
                for word in itertools.product(range(letters), repeat=length):
                    text = format_word(list(word))
                    self.assertEqual(parse_word(letters, text), list(word))
                    self.assertEqual(format_word(parse_word(letters, text)), text)

    def test_first_digit_too_great(self):
        for letters in (1, 2, 3):
            good = "0120"[:letters]
            for digit in range(10):
                for front in ("", "0", good):
                    text = front + str(digit) + "0"
                    if digit < letters:
                        self.assertEqual(format_word(parse_word(letters, text)), text)
                    else:
                        self.assert_letter(letters, text, len(front))

    def test_the_first_wrong_sign_counts(self):
        self.assert_letter(2, "0120", 2)
        self.assert_letter(2, "01 2", 2)
        self.assert_letter(1, "11", 0)
        self.assert_letter(3, "0123x", 3)
        self.assert_letter(3, "9", 0)

    def test_signs_that_are_no_digits_here(self):
        for sign in ODD_SIGNS[:-1]:
            for letters in (1, 2, 3):
                for at in range(4):
                    text = "000"[:at] + sign + "000"[at:]
                    self.assert_letter(letters, text, at)
                self.assert_letter(letters, sign, 0)

    def test_several_signs(self):
        self.assert_letter(2, "0 1", 1)
        self.assert_letter(2, " 01", 0)
        self.assert_letter(2, "01\n", 2)
        self.assert_letter(2, "-1", 0)
        self.assert_letter(2, "0x1", 1)
        self.assert_letter(2, "0_1", 1)

    def test_length(self):
        self.assertEqual(parse_word(3, "2" * 199), [2] * 199)
        self.assertEqual(parse_word(3, "2" * 200), [2] * 200)
        for length in (201, 202, 1000):
            for letters in (1, 2, 3):
                with self.assertRaises(WordTooLong):
                    parse_word(letters, "0" * length)

    def test_a_wrong_sign_behind_200_letters(self):
        self.assert_letter(3, "2" * 200 + "3", 200)
        self.assert_letter(2, "0" * 201 + "2", 201)
        self.assert_letter(1, "0" * 5000 + "1", 5000)
        self.assert_letter(1, "0" * 500 + "\n", 500)
        self.assert_letter(2, "2" + "0" * 500, 0)

    def test_new_lists(self):
        first, second = parse_word(3, "12"), parse_word(3, "12")
        self.assertIs(type(first), list)
        first.append(0)
        self.assertEqual(second, [1, 2])
        self.assertTrue(all(type(letter) is int for letter in second))


def some_machines():
    """Machines of 1 to 3 letters with looks, outs and steps of all sizes."""
    for letters in (1, 2, 3):
        looks = [counting(letters + 2, 1), counting(letters + 2, 6), composing(2, (0, 3, 1, 2, 0)[:letters + 2], ())]
        looks.append(changed(counting(letters + 2, 3), 3, (0, 2)))
        for look in looks:
            last = len(look[2]) - 1
            for width, outs in itertools.product((0, 1, 2), ((), (0,), (1, 2), (0, 1, 2))):
                pieces = [piece for size in range(width + 1) for piece in itertools.product(outs, repeat=size)]
                moves = itertools.cycle(("left", "right", "stop"))
                sights = itertools.product(range(4), (0, last), range(letters + 2), range(last + 1))
                steps = {sight: (next(moves), sight[0] % 2, piece) for sight, piece in zip(sights, pieces)}
                for many in (0, 1, len(steps)):
                    chosen = sorted(steps)[:many]
                    yield (letters, 4, look, width, outs, tuple(sight + steps[sight] for sight in chosen))


class FormatMachineTest(unittest.TestCase):
    def test_lines(self):
        self.assertEqual(format_machine(MACHINE), TEXT)

    def test_ends_that_are_empty(self):
        machine = (1, 1, (0, (0, 0, 0), ((0,),), ()), 0, (), ())
        self.assertEqual(format_machine(machine), "machine 1 1 0\nempty 0\nletters 0 0 0\nrow 0")
        machine = changed(machine, STEPS, ((0, 0, 2, 0, "stop", 0, ()),))
        self.assertEqual(format_machine(machine).split("\n")[-1], "step 0 0 2 0 stop 0")

    def test_accepted_values_are_not_written(self):
        look = changed(MACHINE[LOOK], 3, (0, 1))
        self.assertEqual(format_machine(changed(MACHINE, LOOK, look)), TEXT)

    def test_one_after_the_other(self):
        many = 0
        for machine in some_machines():
            self.assertIsNone(fault_of(machine))
            text = format_machine(machine)
            plain = changed(machine, LOOK, changed(machine[LOOK], 3, ()))
            self.assertEqual(parse_machine(text), plain)
            self.assertEqual(format_machine(parse_machine(text)), text)
            many += 1
        self.assertGreater(many, 100)


class ParseMachineTest(unittest.TestCase):
    def assert_line(self, lines, number):
        text = lines if isinstance(lines, str) else "\n".join(lines)
        with self.assertRaises(InvalidLine) as caught:
            parse_machine(text)
        self.assertEqual(caught.exception.number, number, text)

    def assert_fault(self, machine, word):
        with self.assertRaises(InvalidMachine) as caught:
            parse_machine(format_machine(machine))
        self.assertEqual(caught.exception.word, word)
        self.assertEqual(fault_of(machine), word)

    def test_machine(self):
        self.assertEqual(parse_machine(TEXT), MACHINE)
        found = parse_machine(TEXT)
        for part in (found, found[2], found[2][1], found[2][2], *found[2][2], found[4], found[5], *found[5]):
            self.assertIs(type(part), tuple)
        self.assertIs(type(found[5][3][6]), tuple)

    def test_text_that_is_empty(self):
        self.assert_line("", 0)
        self.assert_line("\n", 0)
        self.assert_line(" ", 0)

    def test_missing_at_the_end(self):
        for many in (1, 2):
            self.assert_line(LINES[:many], many)
            self.assert_line(LINES[:many] + [""], many)
        # All lines that are needed are there, but they are no machine.
        with self.assertRaises(InvalidMachine) as caught:
            parse_machine("\n".join(LINES[:3]))
        self.assertEqual(caught.exception.word, "look")
        self.assertEqual(parse_machine("\n".join(LINES[:6])), changed(MACHINE, STEPS, ()))

    def test_each_line_left_out(self):
        self.assert_line(LINES[1:], 0)
        self.assert_line(LINES[:1] + LINES[2:], 1)
        self.assert_line(LINES[:2] + LINES[3:], 2)
        for at in (3, 4, 5):
            with self.assertRaises(InvalidMachine):
                parse_machine("\n".join(LINES[:at] + LINES[at + 1:]))
        for at in range(6, 10):
            steps = MACHINE[STEPS][:at - 6] + MACHINE[STEPS][at - 5:]
            self.assertEqual(parse_machine("\n".join(LINES[:at] + LINES[at + 1:])), changed(MACHINE, STEPS, steps))

    def test_each_line_doubled(self):
        for at in (0, 1, 2):
            self.assert_line(LINES[:at + 1] + LINES[at:], at + 1)
        for at, word in ((3, "look"), (5, "look"), (6, "order"), (9, "order")):
            with self.assertRaises(InvalidMachine) as caught:
                parse_machine("\n".join(LINES[:at + 1] + LINES[at:]))
            self.assertEqual(caught.exception.word, word)

    def test_each_line_in_the_place_of_another(self):
        heads = [line.split(" ")[0] for line in LINES]
        for first, second in itertools.permutations(range(len(LINES)), 2):
            lines = list(LINES)
            lines.insert(second, lines.pop(first))
            found = [line.split(" ")[0] for line in lines]
            if found == heads:
                continue
            wrong = [at for at in range(len(found)) if found[:at + 1] != heads[:at + 1]][0]
            # A step where a row was expected may stand, but then no row may follow.
            if wrong >= 3 and found[wrong] == "step":
                wrong = found.index("row", wrong)
            self.assert_line(lines, wrong)

    def test_rows_and_steps_mixed(self):
        self.assert_line(LINES[:5] + [LINES[6], LINES[5]] + LINES[7:], 6)
        self.assert_line(LINES + LINES[3:4], 10)
        for line in LINES[:3]:
            self.assert_line(LINES + [line], 10)
            self.assert_line(LINES[:4] + [line] + LINES[4:], 4)
            self.assert_line(LINES[:7] + [line] + LINES[7:], 7)

    def test_wrong_first_word(self):
        for at, line in enumerate(LINES):
            head, *members = line.split(" ")
            for wrong in ("", "x", head + "s", head[:-1], head.upper(), head.title(), " " + head, head + " ", "0"):
                self.assert_line(changed(tuple(LINES), at, " ".join([wrong] + members)), at)
            self.assert_line(changed(tuple(LINES), at, " ".join(members)), at)
            self.assert_line(changed(tuple(LINES), at, head + "\t" + " ".join(members)), at)

    def test_numbers_too_few_or_too_many(self):
        for at, lines in ((0, ("machine", "machine 2", "machine 2 3")), (1, ("empty", "empty 0 0", "empty 0 0 0"))):
            for line in lines:
                self.assert_line(changed(tuple(LINES), at, line), at)
        for line in ("step", "step 0", "step 0 0 0", "step 0 0 0 2", "step 0 0 0 2 right", "step 0 0 0 right 1",
                     "step 0 0 0 2 1 right 1", "step right", "step 0 0 0 2 1", "step 0 0 0 2 1 1"):
            self.assert_line(changed(tuple(LINES), 6, line), 6)

    def test_ends_of_any_length(self):
        for at, line, word in (
            (0, "machine 2 3 2", "steps"), (0, "machine 2 3 2 0 1 2 3", "outs"), (2, "letters", "look"),
            (2, "letters 0 0 0 0 0", "look"), (3, "row", "look"), (3, "row 0 1 2 3", "look"),
            (6, "step 0 0 0 2 right 1 0 0 0", "steps"),
        ):
            with self.assertRaises(InvalidMachine) as caught:
                parse_machine("\n".join(changed(tuple(LINES), at, line)))
            self.assertEqual(caught.exception.word, word)

    def test_moves(self):
        for move in ("", "Right", "up", "rights", "righ", "0", "right ", "1 right"):
            self.assert_line(changed(tuple(LINES), 6, f"step 0 0 0 2 {move} 1"), 6)
        for move in ("left", "right", "stop"):
            machine = parse_machine("\n".join(changed(tuple(LINES), 6, f"step 0 0 0 2 {move} 1")))
            self.assertEqual(machine[STEPS][0][4], move)

    def wrong_integers(self):
        found = ["00", "01", "000", "0000", "0001", "00000", "10000", "12345", "99999", "010", "123456789012345678901"]
        found += ["-0", "-1", "+0", "+1", "1.0", "1e1", "0x1", "1_0", "1,", "a", "left", "stop"]
        found += [sign for sign in ODD_SIGNS if sign not in (" ", "\n")]
        found += ["1" + sign for sign in ODD_SIGNS if sign not in (" ", "\n", "")]
        return found

    def test_integers(self):
        for at, line in enumerate(LINES):
            words = tuple(line.split(" "))
            for place in range(1, len(words)):
                if words[place].isdigit():
                    for wrong in self.wrong_integers():
                        text = " ".join(changed(words, place, wrong))
                        self.assert_line(changed(tuple(LINES), at, text), at)

    def test_integers_of_four_digits(self):
        for at, line, word in (
            (0, "machine 9999 3 2 0 2", "letters"), (0, "machine 2 1000 2 0 2", "states"), (1, "empty 9999", "look"),
            (0, "machine 2 3 1234 0 2", "width"), (0, "machine 2 3 2 0 9999", "outs"), (3, "row 0 1 9999", "look"),
            (6, "step 9999 0 0 2 right 1", "steps"), (6, "step 0 0 0 2 right 1 1000", "steps"),
        ):
            with self.assertRaises(InvalidMachine) as caught:
                parse_machine("\n".join(changed(tuple(LINES), at, line)))
            self.assertEqual(caught.exception.word, word)

    def test_blanks(self):
        for at, line in enumerate(LINES):
            wrong = [" " + line, line + " ", line + "  ", line + "\r", line + "\t"]
            wrong += [line[:k] + " " + line[k:] for k in range(len(line)) if line[k] == " "]
            wrong += [line[:k] + "\t" + line[k + 1:] for k in range(len(line)) if line[k] == " "]
            for text in wrong:
                self.assert_line(changed(tuple(LINES), at, text), at)

    def test_lines_that_are_empty(self):
        for at in range(len(LINES) + 1):
            self.assert_line(LINES[:at] + [""] + LINES[at:], at)
            self.assert_line(LINES[:at] + [" "] + LINES[at:], at)
        self.assert_line(TEXT + "\n", 10)
        self.assert_line(TEXT + "\n\n", 10)
        self.assert_line("\n" + TEXT, 0)
        for sign in ("\r", "\x0b", "\x0c", "\x1c", "\x85", "\u2028", ";"):
            self.assert_line(sign.join(LINES), 0)
            self.assert_line(TEXT + sign, 9)

    def test_the_first_wrong_line_counts(self):
        for first, second in itertools.combinations(range(len(LINES)), 2):
            lines = changed(changed(tuple(LINES), second, "x"), first, LINES[first] + " x")
            self.assert_line(lines, first)
        self.assert_line(["machine 1 1 0", "empty x"], 1)
        self.assert_line(["machine 1 1", "empty 0"], 0)

    def test_each_fault(self):
        self.assert_fault(changed(MACHINE, LETTERS, 0), "letters")
        self.assert_fault(changed(MACHINE, LETTERS, 4), "letters")
        self.assert_fault(changed(MACHINE, STATES, 0), "states")
        self.assert_fault(changed(MACHINE, STATES, 5), "states")
        self.assert_fault(changed(MACHINE, LETTERS, 1), "look")
        self.assert_fault(changed(MACHINE, WIDTH, 3), "width")
        for outs in ((0, 0, 2), (2, 0), (0, 2, 3)):
            self.assert_fault(changed(MACHINE, OUTS, outs), "outs")
        self.assert_fault(changed(MACHINE, OUTS, (0, 1)), "steps")
        self.assert_fault(changed(MACHINE, WIDTH, 1), "steps")
        self.assert_fault(changed(MACHINE, STATES, 2), "steps")
        self.assert_fault(changed(MACHINE, STEPS, MACHINE[STEPS][::-1]), "order")
        self.assert_fault(changed(MACHINE, STEPS, MACHINE[STEPS][:1] * 2), "order")

    def test_each_fault_of_the_look(self):
        look = MACHINE[LOOK]
        wrong = [
            changed(look, 0, 1), changed(look, 0, 3), changed(look, 1, (0, 0, 0)), changed(look, 1, (0, 0, 0, 3)),
            changed(look, 2, ()), changed(look, 2, look[2][:2]), changed(look, 2, changed_row(look[2], 1, 1, 3)),
            changed(look, 2, changed_row(look[2], 1, 1, 2)), changed(look, 2, keeping_first(7)),
        ]
        for member in wrong:
            self.assert_fault(changed(MACHINE, LOOK, member), "look")

    def test_number_of_steps(self):
        sights = list(itertools.product(range(4), range(6), range(5), range(6)))
        for many in (200, 201, 400):
            steps = tuple(sight + ("stop", 0, ()) for sight in sights[:many])
            machine = (3, 4, counting(5, 6), 0, (), steps)
            if many == 200:
                self.assertEqual(parse_machine(format_machine(machine)), machine)
            else:
                self.assert_fault(machine, "steps")

    def test_many_rows(self):
        machine = changed(MACHINE, LOOK, (0, (0, 0, 0, 0), keeping_first(301), ()))
        self.assert_fault(machine, "look")

    def test_a_line_counts_before_a_fault(self):
        self.assert_line(format_machine(changed(MACHINE, LETTERS, 0)) + "\n", 10)
        for at in range(1, len(LINES)):
            lines = changed(changed(tuple(LINES), 0, "machine 9 9 9 9 9"), at, LINES[at] + " 00001")
            self.assert_line(lines, at)
        self.assert_line(["machine 9 9 9 9 9", "empty 7"], 2)

    def test_no_other_errors(self):
        for text in ("machine", "0", "\x00", "\ud800", "machine 1 1 0\nempty 0\nletters\nstep", " \n \n ", "\n" * 500):
            with self.assertRaises(InvalidLine):
                parse_machine(text)
        # Every text that begins as the written machine does.
        for length in range(len(TEXT)):
            try:
                parse_machine(TEXT[:length])
            except (InvalidLine, InvalidMachine):
                pass

    def test_each_sign_left_out_doubled_or_changed(self):
        for at in range(len(TEXT)):
            for put in ("", TEXT[at] * 2, " ", "\n", "9", "x"):
                try:
                    parse_machine(TEXT[:at] + put + TEXT[at + 1:])
                except (InvalidLine, InvalidMachine):
                    pass


class OwnFileTest(unittest.TestCase):
    def test_defined_in_their_file(self):
        for function in (format_word, parse_word, format_machine, parse_machine):
            self.assertEqual(function.__module__, "twoways.notation")

    def test_arguments_stay(self):
        word, machine = [2, 0, 1], copy.deepcopy(MACHINE)
        format_word(word)
        format_machine(machine)
        self.assertEqual((word, machine), ([2, 0, 1], MACHINE))


if __name__ == "__main__":
    unittest.main()
