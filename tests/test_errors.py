"""The errors: what each derives from, and what catches it."""

import unittest

from laterless import errors
from laterless.errors import LaterError

NAMES = [
    "NoMachine", "NoPlain", "NoLetters", "NoRule", "NoRow", "NoWord", "NoNumber", "NoDivisor", "NoArena",
    "NoState", "NoMatch", "NoFactor", "NoWorth", "NoLetter", "NoUndo", "NoThings", "NoRunner", "NoLimit",
    "HasRow", "TooGreat",
]


def raised(name):
    """The error of this name, made from a text, as it is raised and caught as LaterError."""
    try:
        raise getattr(errors, name)("a text")
    except LaterError as error:
        return error


class ErrorsTest(unittest.TestCase):
    def test_base(self):
        self.assertEqual(LaterError.__bases__, (ValueError,))
        self.assertEqual(LaterError.__module__, "laterless.errors")
        with self.assertRaises(ValueError):
            raise LaterError("a text")

    def test_each_is_directly_derived(self):
        for name in NAMES:
            with self.subTest(name):
                kind = getattr(errors, name)
                self.assertEqual((kind.__name__, kind.__module__), (name, "laterless.errors"))
                self.assertEqual(kind.__bases__, (LaterError,))

    def test_each_is_made_from_a_text(self):
        for name in ["LaterError"] + NAMES:
            with self.subTest(name):
                self.assertEqual(str(getattr(errors, name)("a text")), "a text")

    def test_each_is_caught_as_itself_and_its_bases(self):
        for name in NAMES:
            for kind in [getattr(errors, name), LaterError, ValueError]:
                with self.subTest(name, kind=kind):
                    with self.assertRaises(kind):
                        raise getattr(errors, name)("a text")

    def test_each_is_caught_as_no_other(self):
        for name in NAMES:
            for other in NAMES:
                if other != name:
                    with self.subTest(name, other=other):
                        self.assertNotIsInstance(raised(name), getattr(errors, other))


if __name__ == "__main__":
    unittest.main()
