"""The interface: where each function stands, and how its arguments are called."""

import importlib
import inspect
import unittest

SIGNATURES = {
    "laterless.numbers": {
        "number_of": "(n, d)", "plus": "(a, b)", "minus": "(a, b)", "compared": "(a, b)",
    },
    "laterless.machines": {
        "is_machine": "(thing)", "is_plain": "(thing)", "is_rule": "(thing)", "free_rule": "(letters)",
        "is_of": "(rule, word, *, ring=None)",
    },
    "laterless.rows": {
        "worth_of": "(machine, row)", "best_way": "(machine, row)", "shows_way": "(machine, row, thing)",
        "worth_table": "(machine, row)", "shows_worth": "(machine, row, thing)",
    },
    "laterless.lacks": {
        "lacks_after": "(machine, word)", "sum_after": "(machine, word)", "led": "(machine, *, limit=300)",
        "lacks_of": "(machine, *, limit=300)", "shows_led": "(machine, thing)",
    },
    "laterless.leads": {
        "parted": "(one, other, rule, *, limit=2000)", "levels_of": "(one, other, rule, *, limit=2000)",
        "shows_levels": "(one, other, rule, thing)", "shows_never": "(one, other, rule, thing)",
    },
}


class InterfaceTest(unittest.TestCase):
    def test_signatures(self):
        for module, functions in SIGNATURES.items():
            for name, signature in functions.items():
                with self.subTest(module, name=name):
                    function = getattr(importlib.import_module(module), name)
                    self.assertTrue(inspect.isfunction(function))
                    self.assertEqual(function.__module__, module)
                    self.assertEqual(str(inspect.signature(function)), signature)


if __name__ == "__main__":
    unittest.main()
