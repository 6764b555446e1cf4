"""The interface: where each function stands, and how its arguments are called."""

import importlib
import inspect
import unittest

SIGNATURES = {
    "laterless.numbers": {
        "number_of": "(n, d)", "plus": "(a, b)", "minus": "(a, b)", "compared": "(a, b)",
    },
    "laterless.machines": {
        "is_machine": "(thing)", "is_plain": "(thing)", "is_rule": "(thing)", "free_rule": "(letters)",
        "is_of": "(rule, word, *, ring=None)",
    },
}


class InterfaceTest(unittest.TestCase):
    def test_signatures(self):
        for module, functions in SIGNATURES.items():
            for name, signature in functions.items():
                with self.subTest(module, name=name):
                    function = getattr(importlib.import_module(module), name)
                    self.assertTrue(inspect.isfunction(function))
                    self.assertEqual(function.__module__, module)
                    self.assertEqual(str(inspect.signature(function)), signature)


if __name__ == "__main__":
    unittest.main()
