"""The errors: [1.1] and [1.2]."""

import unittest

from offside import errors
from tests.values import odd_values

OF_OFFSIDE = (
    "InvalidWord", "InvalidBook", "InvalidText", "InvalidState", "InvalidRow", "InvalidDemand",
    "InvalidOperation", "ParseError",
)
OF_PYTHON = {
    "UnknownWord": (KeyError, "asked"),
    "Impossible": (LookupError, "index"),
    "NothingToUndo": (IndexError, "amount"),
    "TooMany": (OverflowError, "limit"),
    "Refused": (ArithmeticError, "cause"),
    "NoColumns": (ArithmeticError, "total"),
    "InvalidNumber": (RuntimeError, "number"),
    "Broken": (RuntimeError, "index"),
}
KEEPING = {name: word for name, (_, word) in OF_PYTHON.items()} | {"ParseError": "line"}
ALL = ("OffsideError",) + OF_OFFSIDE + tuple(OF_PYTHON)


def error_class(name):
    return getattr(errors, name)


class TestDerivation(unittest.TestCase):
    def test_the_base(self):
        self.assertEqual(errors.OffsideError.__bases__, (ValueError,))

    def test_directly_from_the_base(self):
        for name in OF_OFFSIDE:
            self.assertEqual(error_class(name).__bases__, (errors.OffsideError,), name)

    def test_directly_from_pythons_own(self):
        for name, (parent, _) in OF_PYTHON.items():
            self.assertEqual(error_class(name).__bases__, (parent,), name)
            self.assertFalse(issubclass(error_class(name), errors.OffsideError), name)

    def test_none_from_another_one(self):
        for name in ALL:
            for other in ALL:
                expected = name == other or other == "OffsideError" and name in OF_OFFSIDE
                self.assertEqual(issubclass(error_class(name), error_class(other)), expected, (name, other))

    def test_each_is_a_class_of_its_own_in_its_file(self):
        self.assertEqual(len({error_class(name) for name in ALL}), len(ALL))
        for name in ALL:
            self.assertEqual(error_class(name).__module__, "offside.errors")
            self.assertEqual(error_class(name).__name__, name)


class TestWhatTheyKeep(unittest.TestCase):
    def test_the_argument(self):
        for name, word in KEEPING.items():
            for value in odd_values() + [("read",), ("over", 1, 2, 3)]:
                error = error_class(name)(value)
                self.assertEqual(getattr(error, word), value, name)

    def test_the_argument_as_a_keyword(self):
        for name, word in KEEPING.items():
            self.assertEqual(getattr(error_class(name)(**{word: 5}), word), 5, name)

    def test_one_argument_is_needed(self):
        for name in KEEPING:
            with self.assertRaises(TypeError):
                error_class(name)()
            with self.assertRaises(TypeError):
                error_class(name)(1, 2)

    def test_two_errors_keep_their_own(self):
        one, other = errors.ParseError(1), errors.ParseError(None)
        self.assertEqual([one.line, other.line], [1, None])

    def test_a_message(self):
        for name in ("OffsideError",) + OF_OFFSIDE:
            if name != "ParseError":
                self.assertEqual(str(error_class(name)("what was wrong")), "what was wrong")

    def test_raised_and_caught(self):
        with self.assertRaises(ValueError):
            raise errors.ParseError(3)
        with self.assertRaises(KeyError):
            raise errors.UnknownWord("of")
        with self.assertRaises(IndexError):
            raise errors.NothingToUndo(1)


if __name__ == "__main__":
    unittest.main()
