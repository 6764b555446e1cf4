"""Numbers: made, added, taken away and compared, and what is no number."""

import itertools
import unittest
from fractions import Fraction

from laterless.errors import NoDivisor, NoNumber
from laterless.numbers import compared, minus, number_of, plus
from parts import Agreeing, Broken, other_things

GREAT = 10 ** 1200
# Python does not write out an integer of this size unless it is told to.
GREATEST = 10 ** 6000

WHOLES = [0, 1, -1, 2, -2, 3, 6, -12, 35, 97, 10 ** 30, -(10 ** 60), GREAT, -GREAT, GREAT + 1, 6 * GREAT, 3 ** 2500]
DIVISORS = [whole for whole in WHOLES if whole > 0]

NO_NUMBERS = [
    (2, 4), (0, 2), (-3, 6), (GREAT, 2), (2 * GREATEST, 2), (0, GREATEST),
    (1, 0), (0, 0), (1, -1), (-1, -2), (0, -1), (GREATEST, 0), (1, -GREATEST),
    (True, 2), (False, 1), (1, True), (0, True), (True, True), [1, 2], [0, 1], [[1, 2]],
    (1,), (), (1, 2, 3), (1, 2, 1), ((1, 2),), ((1, 2), (1, 2)), (1.0, 2), (1, 2.0), ("1", "2"), (None, 1), (1, None),
    ([1], 2), (1, [2]), Fraction(1, 2), "(1, 2)", {0: 1, 1: 2}, range(1, 3),
    (Agreeing(), 1), (1, Agreeing()), (Broken(), 1),
]


def number(fraction):
    return (fraction.numerator, fraction.denominator)


def fractions():
    return [Fraction(n, d) for n in WHOLES for d in DIVISORS]


class NumberOfTest(unittest.TestCase):
    def test_lowest_terms(self):
        self.assertEqual(number_of(6, 4), (3, 2))
        self.assertEqual(number_of(-6, 4), (-3, 2))
        self.assertEqual(number_of(3, 2), (3, 2))
        self.assertEqual(number_of(7, 1), (7, 1))
        self.assertEqual(number_of(0, 1), (0, 1))
        self.assertEqual(number_of(0, 12), (0, 1))
        self.assertEqual(number_of(-12, 12), (-1, 1))

    def test_small_and_great(self):
        for n in WHOLES:
            for d in DIVISORS:
                self.assertEqual(number_of(n, d), number(Fraction(n, d)))

    def test_any_size(self):
        self.assertEqual(number_of(6 * GREATEST, 4 * GREATEST), (3, 2))
        self.assertEqual(number_of(-GREATEST, 1), (-GREATEST, 1))

    def test_kinds(self):
        made = number_of(6, 4)
        self.assertEqual([type(made)] + [type(part) for part in made], [tuple, int, int])

    def test_arguments_by_name(self):
        self.assertEqual(number_of(d=4, n=6), (3, 2))

    def test_no_number(self):
        for n in [True, False, None, 1.0, "1", b"1", (1, 2), (1,), [1], {}, Fraction(1), Agreeing(), Broken()]:
            with self.subTest(kind=n.__class__):
                self.assertRaises(NoNumber, number_of, n, 1)

    def test_no_divisor(self):
        for d in [0, -1, -2, -GREATEST, True, False, None, 1.0, "1", (1, 2), [1], {}, Agreeing(), Broken()]:
            with self.subTest(kind=d.__class__):
                self.assertRaises(NoDivisor, number_of, 1, d)
                self.assertRaises(NoDivisor, number_of, GREATEST, d)

    def test_no_number_comes_first(self):
        for n in [True, None, "1", [1]]:
            for d in [0, -1, True, None, "1"]:
                self.assertRaises(NoNumber, number_of, n, d)


class SumsTest(unittest.TestCase):
    def test_small(self):
        self.assertEqual(plus((1, 2), (1, 3)), (5, 6))
        self.assertEqual(plus((1, 6), (1, 3)), (1, 2))
        self.assertEqual(plus((-1, 2), (1, 2)), (0, 1))
        self.assertEqual(minus((1, 2), (1, 2)), (0, 1))
        self.assertEqual(minus((1, 3), (1, 2)), (-1, 6))
        self.assertEqual(minus((0, 1), (3, 4)), (-3, 4))
        self.assertEqual(minus((1, 2), (-1, 2)), (1, 1))

    def test_against_fractions(self):
        for a, b in itertools.product(fractions()[::3], fractions()[::5]):
            self.assertEqual(plus(number(a), number(b)), number(a + b))
            self.assertEqual(minus(number(a), number(b)), number(a - b))

    def test_taken_away_again(self):
        for a, b in itertools.product(fractions()[::4], fractions()[::7]):
            one, other = number(a), number(b)
            self.assertEqual(minus(plus(one, other), other), one)
            self.assertEqual(plus(minus(one, other), other), one)
            self.assertEqual(minus(one, one), (0, 1))

    def test_arguments_by_name(self):
        self.assertEqual(plus(b=(1, 3), a=(1, 2)), (5, 6))
        self.assertEqual(minus(b=(1, 3), a=(1, 2)), (1, 6))

    def test_arguments_are_as_before(self):
        a, b = (1, 2), (1, 3)
        plus(a, b)
        minus(a, b)
        self.assertEqual([a, b], [(1, 2), (1, 3)])


class ComparedTest(unittest.TestCase):
    def test_small(self):
        self.assertEqual(compared((1, 3), (1, 2)), -1)
        self.assertEqual(compared((1, 2), (1, 3)), 1)
        self.assertEqual(compared((1, 2), (1, 2)), 0)
        self.assertEqual(compared((-1, 2), (-1, 3)), -1)
        self.assertEqual(compared((-1, 3), (-1, 2)), 1)
        self.assertEqual(compared((-1, 2), (1, 2)), -1)
        self.assertEqual(compared((0, 1), (0, 1)), 0)
        self.assertEqual(compared((0, 1), (-1, 5)), 1)

    def test_answers_are_integers(self):
        for a, b in [((1, 3), (1, 2)), ((1, 2), (1, 2)), ((1, 2), (1, 3))]:
            self.assertIs(type(compared(a, b)), int)

    def test_against_fractions(self):
        for a, b in itertools.product(fractions()[::3], fractions()[::4]):
            self.assertEqual(compared(number(a), number(b)), (a > b) - (a < b))

    def test_great_and_near(self):
        self.assertEqual(compared((GREAT, GREAT + 1), (GREAT + 1, GREAT + 2)), -1)
        self.assertEqual(compared((GREATEST + 1, GREATEST), (GREATEST + 2, GREATEST + 1)), 1)
        self.assertEqual(compared((GREATEST, 1), (GREATEST, 1)), 0)

    def test_arguments_by_name(self):
        self.assertEqual(compared(b=(1, 2), a=(1, 3)), -1)


class NoNumberTest(unittest.TestCase):
    def test_each_argument(self):
        for function in [plus, minus, compared]:
            for place, wrong in enumerate(NO_NUMBERS + other_things()):
                with self.subTest(function.__name__, place=place):
                    self.assertRaises(NoNumber, function, wrong, (1, 2))
                    self.assertRaises(NoNumber, function, (1, 2), wrong)
                    self.assertRaises(NoNumber, function, wrong, wrong)

    def test_what_is_a_number(self):
        for right in [(0, 1), (1, 1), (-1, 1), (GREATEST, 1), (1, GREATEST), (-3, GREATEST), (GREATEST, 3)]:
            for function in [plus, minus, compared]:
                function(right, (1, 2))
                function((1, 2), right)

    def test_arguments_are_as_before(self):
        wrong = [1, 2]
        self.assertRaises(NoNumber, plus, wrong, wrong)
        self.assertEqual(wrong, [1, 2])


if __name__ == "__main__":
    unittest.main()
