"""The examples of the document that use the modules that are there."""

import unittest

from laterless.errors import NoNumber, TooGreat
from laterless.lacks import lacks_after, lacks_of, led, shows_led, sum_after
from laterless.leads import levels_of, parted, shows_never
from laterless.machines import free_rule, is_of
from laterless.numbers import compared, minus, number_of, plus
from laterless.rows import best_way, shows_way, worth_of, worth_table

MACHINE = (2, "ab", ((((0, 0), (1, 1)), ((1, 0),)), (((2, 1),), ((0, 0),))))


class ExamplesTest(unittest.TestCase):
    def test_numbers(self):
        self.assertEqual(
            [number_of(6, 4), plus((1, 2), (1, 3)), minus((1, 2), (1, 2)), compared((1, 3), (1, 2))],
            [(3, 2), (5, 6), (0, 1), -1])

    def test_no_number(self):
        with self.assertRaises(NoNumber):
            plus((2, 4), (1, 2))

    def test_machines(self):
        rule = ("ab", ((0, 1), (0, None)))
        self.assertEqual(
            [free_rule("ab"), is_of(rule, "abb"), is_of(rule, "ab", ring="ab"), is_of(rule, "b", ring="ba")],
            [("ab", ((0, 0),)), False, True, False])

    def test_rows(self):
        ways = [shows_way(MACHINE, ("", "ab"), ([], [1, 0])), shows_way(MACHINE, ("", "ab"), ([], [0, 0]))]
        self.assertEqual(
            [worth_of(MACHINE, ("", "a")), worth_of(MACHINE, ("", "ab")), ways], [(3, 1), (4, 3), [True, False]])

    def test_best_way(self):
        self.assertIs(shows_way(MACHINE, ("b", "a"), best_way(MACHINE, ("b", "a"))), True)

    def test_worth_table(self):
        self.assertEqual(worth_table(MACHINE, ("b", "a")), [{0: (5, 2)}, {0: (3, 1), 1: (4, 1)}])

    def test_lacks(self):
        lacks = [sorted(lacks_after(MACHINE, word).items()) for word in ["a", "aa", "ab"]]
        self.assertEqual([lacks, sum_after(MACHINE, "aa"), sum_after(MACHINE, "ab"), led(MACHINE)], [
            [[(0, 2), (1, 0)], [(1, 0)], [(0, 0)]], (2, 1), (1, 1),
            (2, "ab", (((1, 1), (1, 0)), ((2, 2), (0, 0)), ((2, 2), (0, 0))))])

    def test_dicts_of_lacks(self):
        dicts = lacks_of(MACHINE)
        self.assertEqual(
            [dicts == [{0: 0}, {0: 2, 1: 0}, {1: 0}], shows_led(MACHINE, (led(MACHINE), dicts)),
             shows_led(MACHINE, (led(MACHINE), dicts[::-1]))], [True, True, False])

    def test_too_many_dicts(self):
        with self.assertRaises(TooGreat):
            led(MACHINE, limit=2)

    def test_parted(self):
        one, other = (2, "ab", (((2, 0), (0, 0)),)), (2, "ab", (((1, 0), (1, 0)),))
        self.assertEqual([parted(one, other, free_rule("ab")), parted(other, one, free_rule("ab"))], ["aa", "bb"])
        self.assertEqual(
            levels_of(one, other, free_rule("ab")), [[(0, 0, ((0, 0),))], [(0, 0, ((0, 2),))], [(0, 0, ())]])

    def test_never_parted(self):
        one, none = (2, "ab", (((2, 0), (-1, 0)),)), (2, "ab", (((0, 0), (0, 0)),))
        rule = ("ab", ((None, 1), (0, None)))
        self.assertEqual(
            [parted(one, none, rule), levels_of(one, none, rule), shows_never(one, none, rule, [(0, 0, ((0, 0),))])],
            [None, [[(0, 0, ((0, 0),))], [(1, 0, ((0, -2),))]], False])


if __name__ == "__main__":
    unittest.main()
