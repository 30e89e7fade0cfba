import unittest

from twoways import errors
from twoways.errors import (
    InvalidLetter,
    InvalidLine,
    InvalidMachine,
    OutsideWord,
    TooManyEdits,
    TooManyLines,
    TooManySteps,
    TooManyValues,
    TwowaysError,
    WordTooLong,
)

WITH_FIELD = (
    (InvalidLetter, "place", 7),
    (InvalidLine, "number", 0),
    (InvalidMachine, "word", "outs"),
)
WITHOUT_FIELD = (WordTooLong, TooManyValues, TooManySteps, TooManyLines, OutsideWord, TooManyEdits)


def every_error():
    made = [kind(worth) for kind, _, worth in WITH_FIELD]
    return made + [kind() for kind in WITHOUT_FIELD]


class ErrorTest(unittest.TestCase):
    def test_base_classes(self):
        self.assertEqual(TwowaysError.__bases__, (ValueError,))
        for error in every_error():
            self.assertEqual(type(error).__bases__, (TwowaysError,))

    def test_fields(self):
        for kind, name, worth in WITH_FIELD:
            error = kind(worth)
            self.assertEqual(getattr(error, name), worth)
            self.assertEqual(vars(error), {name: worth})
            self.assertEqual(getattr(kind(**{name: worth}), name), worth)

    def test_field_belongs_to_each_object(self):
        first, second = InvalidLetter(1), InvalidLetter(2)
        self.assertEqual((first.place, second.place), (1, 2))

    def test_a_field_is_asked_for(self):
        for kind, _, _ in WITH_FIELD:
            with self.assertRaises(TypeError):
                kind()

    def test_errors_without_a_field_have_none(self):
        for kind in WITHOUT_FIELD:
            self.assertEqual(vars(kind()), {})

    def test_caught_as_each_base(self):
        for error in every_error() + [TwowaysError()]:
            for base in (type(error), TwowaysError, ValueError):
                with self.assertRaises(base) as caught:
                    raise error
                self.assertEqual(caught.exception.__class__, error.__class__)

    def test_of_no_other_class_of_the_package(self):
        listed = [kind for kind, _, _ in WITH_FIELD] + list(WITHOUT_FIELD)
        for error in every_error():
            for kind in listed:
                self.assertEqual(isinstance(error, kind), type(error) is kind)
        for kind in listed:
            self.assertNotIsInstance(TwowaysError(), kind)

    def test_defined_in_their_file(self):
        for error in every_error() + [TwowaysError()]:
            self.assertEqual(type(error).__module__, "twoways.errors")

    def test_no_other_class(self):
        found = {name for name, kind in vars(errors).items() if isinstance(kind, type)}
        listed = {type(error).__name__ for error in every_error()} | {"TwowaysError"}
        self.assertEqual(found, listed)


if __name__ == "__main__":
    unittest.main()
