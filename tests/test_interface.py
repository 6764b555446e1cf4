"""The interface: where each function stands, and how its arguments are called."""

import importlib
import inspect
import unittest

SIGNATURES = {
    "laterless.numbers": {
        "number_of": "(n, d)", "plus": "(a, b)", "minus": "(a, b)", "compared": "(a, b)",
    },
    "laterless.machines": {
        "is_machine": "(thing)", "is_plain": "(thing)", "is_rule": "(thing)", "free_rule": "(letters)",
        "is_of": "(rule, word, *, ring=None)",
    },
    "laterless.rows": {
        "worth_of": "(machine, row)", "best_way": "(machine, row)", "shows_way": "(machine, row, thing)",
        "worth_table": "(machine, row)", "shows_worth": "(machine, row, thing)",
    },
    "laterless.lacks": {
        "lacks_after": "(machine, word)", "sum_after": "(machine, word)", "led": "(machine, *, limit=300)",
        "lacks_of": "(machine, *, limit=300)", "shows_led": "(machine, thing)",
    },
    "laterless.leads": {
        "parted": "(one, other, rule, *, limit=2000)", "levels_of": "(one, other, rule, *, limit=2000)",
        "shows_levels": "(one, other, rule, thing)", "shows_never": "(one, other, rule, thing)",
    },
    "laterless.spans": {
        "apart": "(one, other, rule, *, limit=600)", "apart_table": "(one, other, rule, *, limit=600)",
        "shows_apart": "(one, other, rule, thing)", "span": "(machine, rule, word='')",
    },
    "laterless.least": {
        "like_by": "(plain, p, q)", "least_of": "(plain)", "unlike": "(plain, other)",
        "same_table": "(plain, other, *, limit=600)", "shows_same": "(plain, other, thing)",
    },
    "laterless.lefts": {
        "row_with": "(plain, rule, number, *, limit=600)", "bars_of": "(plain, rule, number, *, limit=600)",
        "shows_none": "(plain, rule, number, thing)",
    },
    "laterless.games": {
        "is_arena": "(thing)", "values_of": "(arena)", "plan_of": "(arena)", "shows_game": "(arena, thing)",
    },
    "laterless.races": {
        "trial": "(runner, things)",
    },
}
CLASSES = {
    ("laterless.worths", "Worth"): {
        "__init__": "(self, machine)", "plain": "(self)", "most": "(self, rule)", "least": "(self, rule)",
        "within": "(self, other)", "below": "(self, other)", "__call__": "(self, row)", "__contains__": "(self, x)",
        "__eq__": "(self, other)", "__neg__": "(self)", "__add__": "(self, other)", "__radd__": "(self, other)",
        "__sub__": "(self, other)", "__rsub__": "(self, other)", "__mul__": "(self, other)",
        "__rmul__": "(self, other)",
        "__or__": "(self, other)", "__and__": "(self, other)", "__rshift__": "(self, other)",
        "__iadd__": "(self, other)", "__isub__": "(self, other)", "__imul__": "(self, other)",
        "__ior__": "(self, other)", "__iand__": "(self, other)", "__irshift__": "(self, other)",
    },
    ("laterless.walks", "Walk"): {
        "__init__": "(self, machine, rule)", "read": "(self, letter)", "undo": "(self)", "word": "(self)",
        "lacks": "(self)", "total": "(self)", "span": "(self)", "sure": "(self, number)", "__len__": "(self)",
        "__enter__": "(self)", "__exit__": "(self, kind, value, trace)",
    },
    ("laterless.races", "Race"): {
        "__init__": "(self, one, other, rule, *, limit=2000)", "read": "(self, letter)", "undo": "(self)",
        "word": "(self)", "standings": "(self)", "state": "(self)", "__len__": "(self)", "__enter__": "(self)",
        "__exit__": "(self, kind, value, trace)",
    },
}


class InterfaceTest(unittest.TestCase):
    def test_signatures(self):
        for module, functions in SIGNATURES.items():
            for name, signature in functions.items():
                with self.subTest(module, name=name):
                    function = getattr(importlib.import_module(module), name)
                    self.assertTrue(inspect.isfunction(function))
                    self.assertEqual(function.__module__, module)
                    self.assertEqual(str(inspect.signature(function)), signature)

    def test_classes(self):
        for (module, name), methods in CLASSES.items():
            kind = getattr(importlib.import_module(module), name)
            self.assertEqual([kind.__module__, kind.__bases__], [module, (object,)])
            for method, signature in methods.items():
                with self.subTest(name, method=method):
                    # In the class itself, not in one that it is derived from.
                    self.assertTrue(inspect.isfunction(vars(kind)[method]))
                    self.assertEqual(str(inspect.signature(vars(kind)[method])), signature)

    def test_properties(self):
        kind = importlib.import_module("laterless.worths").Worth
        for name in ["base", "letters", "states"]:
            self.assertIsInstance(vars(kind)[name], property)


if __name__ == "__main__":
    unittest.main()
