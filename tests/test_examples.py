"""The examples of the document that use the modules that are there."""

import unittest

from laterless.errors import NoNumber
from laterless.machines import free_rule, is_of
from laterless.numbers import compared, minus, number_of, plus


class ExamplesTest(unittest.TestCase):
    def test_numbers(self):
        self.assertEqual(
            [number_of(6, 4), plus((1, 2), (1, 3)), minus((1, 2), (1, 2)), compared((1, 3), (1, 2))],
            [(3, 2), (5, 6), (0, 1), -1])

    def test_no_number(self):
        with self.assertRaises(NoNumber):
            plus((2, 4), (1, 2))

    def test_machines(self):
        rule = ("ab", ((0, 1), (0, None)))
        self.assertEqual(
            [free_rule("ab"), is_of(rule, "abb"), is_of(rule, "ab", ring="ab"), is_of(rule, "b", ring="ba")],
            [("ab", ((0, 0),)), False, True, False])


if __name__ == "__main__":
    unittest.main()
