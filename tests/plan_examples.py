"""Written plans that several tests use, from sentences that are put together here."""

import itertools

from examples import some_numbers

NEVER = (("nothing",), ("denied", 0), ("both", 0, 1))
ALWAYS = NEVER + (("denied", 2),)


def behind(sentence, lines):
    """The lines with their line numbers as they are behind a sentence."""
    plain = ("set", "letter", "one")
    return tuple(
        line if line[0] in plain else (line[0], *(at + len(sentence) for at in line[1:])) for line in lines
    )


def negated(sentence):
    return sentence + (("denied", len(sentence) - 1),)


def both(first, second):
    lines = first + behind(first, second)
    return lines + (("both", len(first) - 1, len(lines) - 1),)


def either(first, second):
    return negated(both(negated(first), negated(second)))


def exchanged(sentence):
    """What the sentence says, with the places x and y exchanged."""
    return tuple(("set", (1, 0, 2)[line[1]]) if line[0] == "set" else line for line in sentence)


# x is the place in the set 0, y the one in the set 1. For rows in which both are single places.
IS_LEFT = (
    ("set", 0), ("set", 1), ("set", 2), ("not", 2), ("next", 3, 3), ("not", 0), ("and", 0, 3), ("not", 6), ("all", 7),
    ("and", 1, 2), ("not", 9), ("all", 10), ("both", 4, 8), ("both", 12, 11), ("there", 13),
)
IS_RIGHT = exchanged(IS_LEFT)
IS_SAME = (("set", 0), ("set", 1), ("not", 1), ("and", 0, 2), ("not", 3), ("all", 4))
IS_NEXT = (("set", 0), ("set", 1), ("next", 0, 1), ("not", 1), ("first", 3), ("both", 2, 4), ("last", 1), ("denied", 6),
           ("not", 0), ("last", 8), ("both", 5, 9))


def has_letter(letter):
    """The place in the set 0 has this tape letter."""
    return (("set", 0), ("letter", letter), ("not", 1), ("and", 0, 2), ("not", 3), ("all", 4))


def first_is(letter):
    """The letter behind the first one, which is an end mark, is this tape letter."""
    return (("letter", 0), ("letter", letter), ("next", 0, 1))


INNER = both(negated(has_letter(0)), negated(has_letter(1)))
SOME_LETTER = (("letter", 0), ("letter", 1), ("next", 0, 1), ("denied", 2))
LEFT_OR_SAME = either(IS_LEFT, IS_SAME)
RIGHT_OR_SAME = either(IS_RIGHT, IS_SAME)


def written_plan(letters, copies, place, ahead, domain=ALWAYS):
    return (letters, tuple(copies), domain, tuple(place), tuple(map(tuple, ahead)))


COPY_PLAN = written_plan(2, [1], [INNER], [[IS_LEFT]])
TURNED_PLAN = written_plan(2, [2], [INNER], [[IS_RIGHT]])
NO_COPIES = written_plan(2, [], [], [])
REFUSING = written_plan(2, [0], [INNER], [[IS_LEFT]], first_is(3))
NONE_STANDS = written_plan(2, [0, 1], [NEVER, NEVER], [[ALWAYS, NEVER], [IS_LEFT, NEVER]])
# Each letter as it is.
LETTERS_PLAN = written_plan(2, [0, 1], [has_letter(2), has_letter(3)], [[IS_LEFT, IS_LEFT], [IS_LEFT, IS_LEFT]])
# Each letter as it is, from the right.
MIRRORED_PLAN = written_plan(2, [0, 1], [has_letter(2), has_letter(3)], [[IS_RIGHT, IS_RIGHT], [IS_RIGHT, IS_RIGHT]])
# Two letters for each one, at one place, and then at all places one after the other.
DOUBLED_PLAN = written_plan(2, [0, 1], [INNER, INNER], [[IS_LEFT, LEFT_OR_SAME], [IS_LEFT, IS_LEFT]])
DOUBLED_BACK = written_plan(1, [0, 2], [INNER, ALWAYS], [[IS_RIGHT, IS_RIGHT], [RIGHT_OR_SAME, IS_RIGHT]])
TWICE_PLAN = written_plan(2, [0, 1], [INNER, INNER], [[IS_LEFT, ALWAYS], [NEVER, IS_LEFT]])
THERE_AND_BACK = written_plan(2, [0, 1], [INNER, INNER], [[IS_LEFT, ALWAYS], [NEVER, IS_RIGHT]])
THREE_COPIES = written_plan(
    1, [2, 0, 1], [INNER, ALWAYS, INNER],
    [[IS_RIGHT, NEVER, IS_RIGHT], [ALWAYS, IS_LEFT, ALWAYS], [RIGHT_OR_SAME, NEVER, IS_RIGHT]],
)
THREE_AT_ONE_PLACE = written_plan(1, [2, 1, 0], [INNER] * 3, [
    [IS_LEFT, IS_LEFT, IS_LEFT], [LEFT_OR_SAME, IS_LEFT, IS_LEFT], [LEFT_OR_SAME, LEFT_OR_SAME, IS_LEFT]])
# At the places 0 and 1 of the tape alone, one of them first if a letter is there, and otherwise the other one.
CHOOSING = written_plan(2, [1, 0], [has_letter(0), has_letter(1)], [
    [NEVER, SOME_LETTER], [negated(SOME_LETTER), NEVER]])

# Of two that stand neither is ahead of the other one, or each is.
NEITHER_AHEAD = written_plan(1, [0], [INNER], [[NEVER]])
EACH_AHEAD = written_plan(1, [0], [INNER], [[ALWAYS]])
NEXT_ONLY = written_plan(1, [0], [INNER], [[IS_NEXT]])
SAME_PLACE_NEITHER = written_plan(1, [0, 1], [INNER, INNER], [[IS_LEFT, IS_LEFT], [IS_LEFT, IS_LEFT]])
SAME_PLACE_EACH = written_plan(1, [0, 1], [INNER, INNER], [[IS_LEFT, LEFT_OR_SAME], [LEFT_OR_SAME, IS_LEFT]])
# Three that stand in a circle: three places, and three copies at one place.
CIRCLE = written_plan(1, [0], [INNER], [[either(IS_NEXT, both(IS_RIGHT, negated(
    exchanged(IS_NEXT))))]])
CIRCLE_OF_COPIES = written_plan(1, [0, 1, 2], [INNER] * 3, [
    [NEVER, IS_SAME, NEVER], [NEVER, NEVER, IS_SAME], [IS_SAME, NEVER, NEVER]])

TELLING = (COPY_PLAN, TURNED_PLAN, NO_COPIES, REFUSING, NONE_STANDS, LETTERS_PLAN, MIRRORED_PLAN, DOUBLED_PLAN,
           DOUBLED_BACK, TWICE_PLAN, THERE_AND_BACK, THREE_COPIES, THREE_AT_ONE_PLACE, CHOOSING)
NOT_TELLING = (NEITHER_AHEAD, EACH_AHEAD, NEXT_ONLY, SAME_PLACE_NEITHER, SAME_PLACE_EACH, CIRCLE, CIRCLE_OF_COPIES)


def some_plans(many, copies):
    """Written plans of so many copies, from sentences that are chosen without a plain pattern."""
    places = (INNER, ALWAYS, has_letter(2), has_letter(3), has_letter(0), has_letter(1), INNER, has_letter(2))
    relations = (IS_LEFT, IS_LEFT, IS_RIGHT, LEFT_OR_SAME, RIGHT_OR_SAME, ALWAYS, NEVER, IS_SAME, IS_NEXT, SOME_LETTER,
                 either(IS_RIGHT, first_is(2)), both(IS_LEFT, first_is(2)), negated(LEFT_OR_SAME), negated(IS_SAME))
    domains = (ALWAYS, ALWAYS, SOME_LETTER, first_is(2), negated(first_is(3)))
    numbers = iter(some_numbers(31, many * 20, 1 << 20))
    for _ in range(many):
        chosen = [places[next(numbers) % len(places)] for _ in range(copies)]
        ahead = [[relations[next(numbers) % len(relations)] for _ in range(copies)] for _ in range(copies)]
        # Mostly the relations of two copies agree with each other, so that there may be an order.
        for c, d in itertools.combinations(range(copies), 2):
            if next(numbers) % 4 > 0:
                ahead[d][c] = negated(exchanged(ahead[c][d]))
        domain = domains[next(numbers) % len(domains)]
        yield written_plan(2, [next(numbers) % 3 for _ in range(copies)], chosen, ahead, domain)
