"""The errors: their tree, their fields and their messages (stage 1 of the interface)."""

import unittest

from layoutswap import errors
from layoutswap.errors import LayoutError
from things import DEEP

FIELDS = {
    "TooMany": ("limit",),
    "SyntaxProblem": ("line", "column"),
    "NoStep": ("place",),
    "NoRow": ("place",),
    "NoTable": ("fault",),
    "NotLike": ("answer",),
}
MESSAGES = (
    "NoKind", "NoLayout", "NoTree", "NoRecord", "NoName", "NoNumber", "NoEra", "NoMark", "Mismatch", "InvalidCommand",
)
ALL = tuple(FIELDS) + MESSAGES
VALUES = {
    "TooMany": (40,),
    "SyntaxProblem": (1, 17),
    "NoStep": (-1,),
    "NoRow": (3,),
    "NoTable": (("none", (1, 0, (("leaf",),))),),
    "NotLike": (("rests", (-1,), (0, 1)),),
}


def made(name):
    """Make the error of a name with fitting arguments."""
    return getattr(errors, name)(*VALUES.get(name, ("a message",)))


class TheTree(unittest.TestCase):
    def test_the_base_is_a_value_error(self):
        self.assertEqual(LayoutError.__bases__, (ValueError,))
        self.assertIsInstance(LayoutError("text"), ValueError)
        self.assertEqual(str(LayoutError("text")), "text")

    def test_each_stands_directly_under_the_base(self):
        for name in ALL:
            with self.subTest(name):
                self.assertEqual(getattr(errors, name).__bases__, (LayoutError,))

    def test_each_is_one_of_the_base_and_of_no_other(self):
        for name in ALL:
            error = made(name)
            with self.subTest(name):
                self.assertIsInstance(error, LayoutError)
                self.assertIsInstance(error, ValueError)
                alike = [other for other in ALL if isinstance(error, getattr(errors, other))]
                self.assertEqual(alike, [name])

    def test_none_is_one_of_other_errors(self):
        for name in ("LayoutError",) + ALL:
            for other in (TypeError, LookupError, ArithmeticError, RuntimeError, UnicodeError):
                with self.subTest(name=name, other=other):
                    self.assertFalse(issubclass(getattr(errors, name), other))

    def test_each_is_defined_in_its_file(self):
        for name in ("LayoutError",) + ALL:
            with self.subTest(name):
                self.assertEqual(getattr(errors, name).__module__, "layoutswap.errors")
                self.assertEqual(getattr(errors, name).__qualname__, name)

    def test_each_is_raised_and_caught_by_its_name_and_by_its_base(self):
        for name in ALL:
            for catcher in (getattr(errors, name), LayoutError, ValueError):
                with self.subTest(name=name, catcher=catcher), self.assertRaises(catcher):
                    raise made(name)


class TheFields(unittest.TestCase):
    def test_fields_are_as_they_were_passed(self):
        for name, fields in FIELDS.items():
            error = made(name)
            with self.subTest(name):
                self.assertEqual(tuple(getattr(error, field) for field in fields), VALUES[name])

    def test_fields_are_the_very_objects(self):
        fault, answer = ["several", ()], {"answer": ()}
        self.assertIs(errors.NoTable(fault).fault, fault)
        self.assertIs(errors.NotLike(answer).answer, answer)

    def test_line_and_column_are_not_mixed_up(self):
        error = errors.SyntaxProblem(2, 5)
        self.assertEqual((error.line, error.column), (2, 5))

    def test_edges_of_the_fields(self):
        for number in (-1, 0, 1, 400, 10 ** 49):
            with self.subTest(number):
                self.assertEqual(errors.TooMany(number).limit, number)
                self.assertEqual(errors.NoStep(number).place, number)
                self.assertEqual(errors.NoRow(number).place, number)

    def test_deep_fields_do_no_harm(self):
        for deep in DEEP:
            self.assertIs(errors.NoTable(deep).fault, deep)
            self.assertIs(errors.NotLike(deep).answer, deep)
            self.assertNotEqual(str(errors.NoTable(deep)), "")
            self.assertNotEqual(str(errors.NotLike(deep)), "")

    def test_each_error_has_its_own_fields(self):
        first, second = errors.NoStep(1), errors.NoStep(2)
        self.assertEqual((first.place, second.place), (1, 2))

    def test_the_number_of_arguments_is_told(self):
        for name, fields in FIELDS.items():
            with self.subTest(name):
                with self.assertRaises(TypeError):
                    getattr(errors, name)()
                with self.assertRaises(TypeError):
                    getattr(errors, name)(*range(len(fields) + 1))


class TheMessages(unittest.TestCase):
    def test_those_with_a_message_are_made_with_one(self):
        for name in MESSAGES:
            with self.subTest(name):
                self.assertEqual(str(getattr(errors, name)("no such thing")), "no such thing")

    def test_those_with_fields_have_a_message_too(self):
        for name in FIELDS:
            with self.subTest(name):
                self.assertNotEqual(str(made(name)), "")


if __name__ == "__main__":
    unittest.main()
