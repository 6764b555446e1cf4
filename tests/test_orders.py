"""Worths beside each other: ==, !=, within, below, in, and the greatest and the least worth."""

import operator
import unittest

from laterless.errors import NoMatch, NoRule, NoWorth, TooGreat
from laterless.lacks import led
from laterless.least import least_of
from laterless.lefts import row_with
from laterless.machines import free_rule, is_of
from laterless.rows import worth_of
from laterless.spans import apart, span
from laterless.worths import Worth
from makers import EXACT, MACHINE, plain_of, row_of, rows_that_begin, rule_of, series, twins_of, wheel
from parts import Agreeing, Broken, other_things
from reckoning import number
from slow import fraction, plain_worth, short_rows
from test_worths import pairs

A, B = (2, "ab", (((1, 0), (0, 0)),)), (2, "ab", (((0, 0), (1, 0)),))


class EqualTest(unittest.TestCase):
    def check(self, a, b, right):
        self.assertIs(a == b, right)
        self.assertIs(b == a, right)
        self.assertIs(a != b, not right)
        self.assertIs(b != a, not right)

    def test_whatever_they_keep(self):
        source = series("equal")
        for one, other in pairs("equal", 60):
            a, b = Worth(one), Worth(other)
            twin = Worth(twins_of(source, a.plain(), 2))
            self.check(a, twin, True)
            self.check(a, Worth(led(one)), True)
            self.check(a + 5 - 5, a, True)
            self.check(a + 1, a, False)
            self.check(a - a, b - b, True)
            self.check(a + b - b, a, True)
            self.check(-(-a), a, True)
            self.check(2 * a, a + a, True)

    def test_against_apart(self):
        found = {True: 0, False: 0}
        for one, other in pairs("apart", 120):
            free = free_rule(one[1])
            right = apart(one, other, free)[0] == (0, 1) == apart(other, one, free)[0]
            self.check(Worth(one), Worth(other), right)
            found[right] += 1
        self.assertGreater(found[False], 60)

    def test_other_bases_and_letters(self):
        for machine in [(3, *A[1:]), (2, "ac", A[2]), (2, "a", (((1, 0),),))]:
            self.check(Worth(A), Worth(machine), False)
        self.check(Worth((2, "a", (((0, 0),),))), Worth((3, "a", (((0, 0),),))), False)

    def test_other_things(self):
        a = Worth((2, "a", (((0, 0),),)))
        for thing in other_things() + [a.plain(), 0, (0, 1)]:
            self.assertIs(a == thing, False)
            self.assertIs(a != thing, True)
            if not isinstance(thing, (Agreeing, Broken)):
                self.assertIs(thing == a, False)

    def test_never_too_great(self):
        one, other = Worth(wheel(2, 298)), Worth(wheel(2, 297))
        self.assertRaises(TooGreat, one.within, other)
        self.check(one, other, True)
        self.check(one, Worth((2, "a", (((0, 1),),) + wheel(2, 296)[2][1:])), True)
        late = (2, "a", tuple([((0, min(at + 1, 297)),) for at in range(297)]) + (((1, 297),),))
        self.check(one, Worth(late), False)
        great = Worth((2, "a", (((10 ** 30, 0),),)))
        self.check(great, great, True)
        self.check(great, -great, False)


class OrderTest(unittest.TestCase):
    def test_against_apart(self):
        found = {"within": 0, "below": 0}
        for one, other in pairs("orders", 80):
            a, b = Worth(one), Worth(other)
            try:
                cases = [(a, b), (b, a), (a, a | b), (a & b, a), (a & b, a | b), (a, a), (a, a + 1), (a + 1, a),
                         (a | b, b | a), (a, a & b)]
            except TooGreat:
                continue
            for left, right in cases:
                free = free_rule(one[1])
                try:
                    above, behind = [apart(*part, free)[0][0] for part in [
                        (left.plain(), right.plain()), (right.plain(), left.plain())]]
                except TooGreat:
                    self.assertRaises(TooGreat, left.within, right)
                    self.assertRaises(TooGreat, left.below, right)
                    continue
                self.assertIs(left.within(right), above <= 0)
                self.assertIs(left.below(right), above <= 0 < behind)
                found["within"] += above <= 0
                found["below"] += above <= 0 < behind
        self.assertGreater(min(found.values()), 60)

    def test_small(self):
        a, b = Worth(A), Worth(B)
        self.assertEqual([a.within(a | b), a.below(a | b), a.within(b), a.below(b)], [True, True, False, False])
        self.assertEqual([a.within(a), a.below(a)], [True, False])
        # One is less for one row alone.
        one, other = Worth((2, "ab", (((0, 0), (0, 1)), ((0, 1), (0, 1))))), Worth((2, "ab", (
            ((0, 0), (1, 1)), ((0, 1), (0, 1)))))
        self.assertEqual([one.within(other), one.below(other), other.within(one)], [True, True, False])

    def test_pairs_of_states(self):
        a, b = Worth(wheel(2, 24)), Worth(wheel(2, 25))
        self.assertEqual([a.within(b), a.below(b)], [True, False])
        for one, other in [(wheel(2, 23), wheel(2, 27)), (wheel(2, 298), wheel(2, 297))]:
            for function in [Worth.within, Worth.below]:
                self.assertRaises(TooGreat, function, Worth(one), Worth(other))
        full = Worth((2, "a", tuple([((0, (at + 1) % 300),) for at in range(300)])))
        self.assertEqual([full.within(full), full.below(full)], [True, False])

    def test_too_great_though_it_is_not_within(self):
        one = Worth((2, "a", (((7, 1),),) + wheel(2, 23)[2][1:]))
        other = Worth(wheel(2, 27))
        for left, right in [(one, other), (other, one)]:
            for function in [Worth.within, Worth.below]:
                self.assertRaises(TooGreat, function, left, right)

    def test_errors(self):
        a = Worth(A)
        for thing in other_things() + [1, A, "ab"]:
            self.assertRaises(NoWorth, a.within, thing)
            self.assertRaises(NoWorth, a.below, thing)
        self.assertRaises(NoMatch, Worth(wheel(2, 23)).within, Worth(wheel(3, 27)))
        self.assertRaises(NoMatch, Worth(wheel(2, 23)).below, Worth(wheel(3, 27)))


class InTest(unittest.TestCase):
    def test_small(self):
        a = Worth(B)
        self.assertEqual([(2, 3) in a, (5, 2) in a, 7 in a], [True, False, False])
        self.assertEqual([(2, 3) not in a, (5, 2) not in a], [False, True])

    def test_against_row_with(self):
        source, found = series("in"), {True: 0, False: 0}
        for one, _ in pairs("in", 60):
            a = Worth(one)
            row = row_of(source, one[1], 3)
            for told in [number(plain_worth(a.plain(), row)), (source.randint(-9, 9), 1), (1, 10 ** 9 + 7),
                         number(plain_worth(a.plain(), row) + 1)]:
                try:
                    right = row_with(a.plain(), free_rule(one[1]), told) is not None
                except TooGreat:
                    self.assertRaises(TooGreat, operator.contains, a, told)
                    continue
                self.assertIs(told in a, right)
                found[right] += 1
        self.assertGreater(min(found.values()), 30)

    def test_too_great(self):
        self.assertRaises(TooGreat, operator.contains, Worth(B), (1, 10 ** 30 + 57))
        self.assertIs((10 ** 30 + 57, 10 ** 30) in Worth((2, "a", (((0, 0),),))), False)

    def test_what_is_no_number(self):
        a = Worth((2, "a", (((0, 0),),)))
        self.assertIs((0, 1) in a, True)
        for thing in other_things() + [0, (0, 2), (0, -1), (0, 0), [0, 1], (0, True), (False, 1), (0.0, 1), (0, 1.0),
                                       (0, 1, 1), (0,), "0", a]:
            self.assertIs(thing in a, False)


class EndsTest(unittest.TestCase):
    def test_as_spans(self):
        source = series("ends")
        for one, _ in pairs("ends", 60):
            a, rule = Worth(one), rule_of(source, one[1])
            self.assertEqual((a.least(rule), a.most(rule)), span(a.plain(), rule))
            least, most = a.least(rule), a.most(rule)
            for told, row in [least, most]:
                self.assertIs(is_of(rule, row[0], ring=row[1]), True)
                self.assertEqual([a(row), worth_of(one, row)], [told, told])
            for row in rows_that_begin(source, rule, "", 10):
                self.assertTrue(fraction(least[0]) <= plain_worth(a.plain(), row) <= fraction(most[0]))

    def test_rules(self):
        a = Worth(A)
        for thing in other_things() + [free_rule("a"), free_rule("abc"), ("ab", ((0, 1),)), ["ab", ((0, 0),)]]:
            self.assertRaises(NoRule, a.most, thing)
            self.assertRaises(NoRule, a.least, thing)

    def test_states(self):
        source = series("states")
        for _ in range(40):
            plain = twins_of(source, plain_of(source, many=3), source.randint(0, 3))
            a = Worth(plain)
            self.assertEqual(a.states, len(least_of(led(plain))[3]))
            self.assertEqual((a + 1).states, len(least_of((a + 1).plain())[3]))
        self.assertEqual([Worth(MACHINE).states, Worth(wheel(2, 298)).states], [2, 1])

    def test_most_of_many_states(self):
        a = Worth(EXACT[300])
        self.assertEqual(a((a.most(free_rule("abc"))[1])), a.most(free_rule("abc"))[0])


class LatticeTest(unittest.TestCase):
    def test_laws(self):
        source, done = series("laws"), 0
        for one, other in pairs("laws", 120):
            a, b = Worth(one), Worth(other)
            c = Worth(plain_of(source, one[0], one[1], 1, 2))
            v, w = [row_of(source, one[1], 3)[0] for _ in range(2)]
            try:
                cases = [
                    (a + (b | c), (a + b) | (a + c)), (-(a | b), -a & -b), ((a >> v) >> w, a >> (v + w)),
                    (a | b, b | a), (a & b, b & a), (a + b, b + a), (a | (a & b), a), (a & (a | b), a),
                    ((a | b) + (a & b), a + b), ((a | b) | c, a | (b | c)), ((a | b) >> v, (a >> v) | (b >> v)),
                    (a - b, -(b - a)), (3 * (a + b), 3 * a + 3 * b), (a + 4 - 4, a), (5 - a, -a + 5),
                    (2 * (a | b), 2 * a | 2 * b), (-2 * (a | b), -2 * a & -2 * b),
                ]
            except TooGreat:
                continue
            done += 1
            for left, right in cases:
                self.assertTrue(left == right)
                for row in short_rows(one[1], 2):
                    self.assertEqual(left(row), right(row))
        self.assertGreater(done, 40)

    def test_long_words(self):
        a = Worth((2, "ab", (((0, 1), (0, 1)), ((1, 1), (0, 0)))))
        v, w = "b" * 90, "ab" * 4
        self.assertTrue((a >> v) >> w == a >> (v + w))
        self.assertTrue((a >> "b" * 150) >> "b" * 150 == a >> "b" * 300)


if __name__ == "__main__":
    unittest.main()
