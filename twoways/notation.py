"""Written words and written machines (points 6 and 7)."""

from twoways.errors import InvalidLetter, InvalidLine, InvalidMachine, WordTooLong
from twoways.tapes import LONGEST_WORD, MOVES, fault_of

DIGITS = "0123456789"
MOST_DIGITS = 4

# The lines that stand once, in this order. The lines `row` and then the lines `step` follow them.
SINGLE_HEADS = ("machine", "empty", "letters")


def format_word(word):
    """Return the written word, a string."""
    return "".join([str(letter) for letter in word])


def parse_word(letters, text):
    """Return the word that is written with so many letters."""
    digits = DIGITS[:letters]
    for place, sign in enumerate(text):
        if sign not in digits:
            raise InvalidLetter(place)
    if len(text) > LONGEST_WORD:
        raise WordTooLong(f"a word has at most {LONGEST_WORD} letters")
    return _integers(list(text))


def format_machine(machine):
    """Return the written machine, a string."""
    letters, states, look, width, outs, steps = machine
    empty, letter_values, mul, _ = look
    lines = [
        _line("machine", (letters, states, width) + outs),
        _line("empty", (empty,)),
        _line("letters", letter_values),
    ]
    lines += [_line("row", row) for row in mul]
    lines += [_line("step", step[:6] + step[6]) for step in steps]
    return "\n".join(lines)


def parse_machine(text):
    """Return the machine that is written, with no accepted values of look."""
    lines = [line.split(" ") for line in text.split("\n")]
    for number, words in enumerate(lines):
        if words[0] not in _heads_at(lines, number) or not _is_line(words):
            raise InvalidLine(number)
    if len(lines) < len(SINGLE_HEADS):
        raise InvalidLine(len(lines))
    machine = _machine_from(lines)
    word = fault_of(machine)
    if word is not None:
        raise InvalidMachine(word)
    return machine


def _line(head, members):
    """Return a line of a written machine."""
    return " ".join([head] + [str(member) for member in members])


def _heads_at(lines, number):
    """Return the words with which the line with this number may begin, all lines before it being right."""
    if number < len(SINGLE_HEADS):
        return SINGLE_HEADS[number:number + 1]
    if lines[number - 1][0] == "step":
        return ("step",)
    return ("row", "step")


def _is_line(words):
    """Return True if what follows the first of the words is written as that one asks for."""
    head, *members = words
    if head == "machine" and len(members) < 3:
        return False
    if head == "empty" and len(members) != 1:
        return False
    if head == "step":
        if len(members) < 6 or members[4] not in MOVES:
            return False
        # The move is the only member that is not an integer.
        members = members[:4] + members[5:]
    for member in members:
        if not _is_integer(member):
            return False
    return True


def _is_integer(text):
    """Return True if the text is an integer of at most four digits as the program writes it."""
    if not 1 <= len(text) <= MOST_DIGITS:
        return False
    for sign in text:
        # Not isdigit(), which also knows signs that are digits elsewhere.
        if sign not in DIGITS:
            return False
    return text == "0" or text[0] != "0"


def _integers(texts):
    """Return the integers that are written, a list."""
    return [int(text) for text in texts]


def _machine_from(lines):
    """Return the machine of lines that are all written as they should be."""
    letters, states, width, *outs = _integers(lines[0][1:])
    letter_values = tuple(_integers(lines[2][1:]))
    rows = [tuple(_integers(words[1:])) for words in lines if words[0] == "row"]
    steps = [_step_from(words) for words in lines if words[0] == "step"]
    look = (int(lines[1][1]), letter_values, tuple(rows), ())
    return (letters, states, look, width, tuple(outs), tuple(steps))


def _step_from(words):
    """Return the step of a line."""
    seen = _integers(words[1:5])
    return (*seen, words[5], int(words[6]), tuple(_integers(words[7:])))
