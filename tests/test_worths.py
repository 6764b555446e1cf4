"""Worths: what is kept and due after each operator, by itself and in place, and what is refused."""

import operator
import unittest

from laterless.errors import NoFactor, NoMachine, NoMatch, NoRow, NoWord, NoWorth, TooGreat
from laterless.lacks import led
from laterless.least import least_of
from laterless.machines import free_rule, is_plain
from laterless.rows import worth_of
from laterless.worths import Worth
from makers import EXACT, MACHINE, TIES, machine_of, plain_of, row_of, series, wheel, word_of
from parts import Agreeing, Broken, listed, other_things
from reckoning import number
from slow import (
    fraction, kept_after, kept_greater, kept_lesser, kept_multiple, kept_raised, kept_sum, plain_worth, sum_along,
)

A, B = (2, "ab", (((1, 0), (0, 0)),)), (2, "ab", (((0, 0), (1, 0)),))
BINARY = {operator.add: operator.iadd, operator.sub: operator.isub, operator.or_: operator.ior,
          operator.and_: operator.iand}
KEPT = {
    operator.add: kept_sum,
    operator.sub: lambda a, b: kept_sum(a, kept_multiple(b, -1)),
    operator.or_: kept_greater,
    operator.and_: kept_lesser,
}
DUE = {operator.add: lambda x, y: x + y, operator.sub: lambda x, y: x - y, operator.or_: max, operator.and_: min}


def pairs(name, many):
    """Pairs of machines with one base and letters, with choices and plain ones, the led ones small."""
    source, found = series(name), []
    while len(found) < many:
        base, letters = source.choice([2, 2, 3, 9]), "abc"[:source.randint(1, 3)]
        pair = [
            plain_of(source, base, letters, source.randint(1, 3), source.choice([1, 2, 20])) if source.random() < 0.5
            else machine_of(source, base, letters, source.randint(1, 2), source.choice([1, 2]))
            for _ in range(2)
        ]
        try:
            if len(led(pair[0], limit=12)[2]) * len(led(pair[1], limit=12)[2]) <= 60:
                found.append(pair)
        except TooGreat:
            continue
    return found


def due(worth, row):
    """What a worth says of a row."""
    return fraction(worth(row))


def not_worths():
    """Values that are no worths and no integers that can be added."""
    return [
        thing for thing in other_things() + [(1, 2), [A], A, "a", {"a": 1}, 10 ** 20 + 1, -(10 ** 20) - 1]
        if not (type(thing) is int and abs(thing) <= 10 ** 20)
    ]


class KeptTest(unittest.TestCase):
    def same(self, worth, plain):
        """The worth keeps just this plain machine."""
        self.assertIs(type(worth), Worth)
        self.assertEqual(worth.plain(), plain)
        self.assertEqual(led(worth.plain()), plain)

    def test_at_first(self):
        source = series("first")
        for machine in [MACHINE, TIES, EXACT[300]] + [one for pair in pairs("first", 20) for one in pair]:
            a = Worth(machine)
            self.same(a, led(machine))
            self.assertEqual([a.base, a.letters, a.states], [*machine[:2], len(least_of(led(machine))[3])])
            row = row_of(source, machine[1])
            self.assertEqual(a(row), worth_of(machine, row))

    def test_states_that_no_word_reaches(self):
        plain = (3, "ab", (((1, 3), (2, 0)), ((9, 1), (9, 1)), ((5, 0), (6, 3)), ((7, 3), (8, 2))))
        self.same(Worth(plain), (3, "ab", (((1, 1), (2, 0)), ((7, 1), (8, 2)), ((5, 0), (6, 1)))))

    def test_two_worths(self):
        source = series("two")
        for one, other in pairs("two", 120):
            a, b = Worth(one), Worth(other)
            kept = led(one), led(other)
            for operation, in_place in BINARY.items():
                right = KEPT[operation](*kept)
                if len(right[2]) > 300:
                    self.assertRaises(TooGreat, operation, a, b)
                    continue
                made = operation(a, b)
                self.same(made, right)
                self.assertIsNot(made, a)
                self.assertIsNot(made, b)
                for _ in range(4):
                    row = row_of(source, one[1])
                    x, y = [plain_worth(plain, row) for plain in kept]
                    self.assertEqual(due(made, row), DUE[operation](x, y))
                changed = Worth(one)
                other_name = changed
                self.assertIs(in_place(changed, b), other_name)
                self.same(other_name, right)
            self.assertEqual([a.plain(), b.plain()], list(kept))

    def test_by_itself(self):
        for one, _ in pairs("itself", 40):
            kept = led(one)
            for operation, in_place in BINARY.items():
                a = Worth(one)
                self.same(operation(a, a), KEPT[operation](kept, kept))
                self.same(a, kept)
                self.assertIs(in_place(a, a), a)
                self.same(a, KEPT[operation](kept, kept))

    def test_integers(self):
        source = series("integers")
        for one, _ in pairs("integers", 60):
            kept = led(one)
            for k in [0, 1, -1, 7, -20, 10 ** 20, -(10 ** 20), source.randint(-99, 99)]:
                a, opposite = Worth(one), kept_multiple(kept, -1)
                self.same(a + k, kept_raised(kept, k))
                self.same(k + a, kept_raised(kept, k))
                self.same(a - k, kept_raised(kept, -k))
                self.same(k - a, kept_raised(opposite, k))
                row = row_of(source, one[1])
                worth = plain_worth(kept, row)
                self.assertEqual([due(part, row) for part in [a + k, k + a, a - k, k - a]],
                                 [worth + k, worth + k, worth - k, k - worth])
                self.same(a, kept)
                plus, minus = a, Worth(one)
                plus += k
                minus -= k
                self.assertIs(plus, a)
                self.same(plus, kept_raised(kept, k))
                self.same(minus, kept_raised(kept, -k))

    def test_where_the_first_state_comes_again(self):
        a = Worth(B)
        self.assertEqual((a + 1).plain(), (2, "ab", (((1, 1), (2, 1)), ((0, 1), (1, 1)))))
        once = Worth((2, "a", (((3, 1),), ((5, 1),))))
        self.assertEqual((once + 4).plain(), (2, "a", (((7, 1),), ((5, 1),))))
        self.assertEqual((4 - once).plain(), (2, "a", (((1, 1),), ((-5, 1),))))
        later = Worth((2, "ab", (((3, 1), (0, 2)), ((5, 1), (1, 0)), ((0, 2), (0, 2)))))
        self.assertEqual((later + 1).plain(), (2, "ab", (
            ((4, 1), (1, 2)), ((5, 1), (1, 3)), ((0, 2), (0, 2)), ((3, 1), (0, 2)))))
        self.assertEqual((a + 0).plain(), a.plain())
        self.assertEqual((a + 1 - 1).plain(), (2, "ab", (((0, 1), (1, 1)), ((0, 1), (1, 1)))))

    def test_multiples(self):
        source = series("multiples")
        for one, _ in pairs("multiples", 40):
            kept = led(one)
            row = row_of(source, one[1])
            a = Worth(one)
            self.same(-a, kept_multiple(kept, -1))
            self.assertEqual(due(-a, row), -plain_worth(kept, row))
            for k in [0, 1, -1, 2, 20, -20]:
                a = Worth(one)
                self.same(k * a, kept_multiple(kept, k))
                self.same(a * k, kept_multiple(kept, k))
                self.assertEqual(due(k * a, row), k * plain_worth(kept, row))
                changed = a
                changed *= k
                self.assertIs(changed, a)
                self.same(a, kept_multiple(kept, k))

    def test_after_words(self):
        source = series("after")
        for one, _ in pairs("after", 80):
            kept = led(one)
            for many in [0, 1, 2, 5, 30]:
                word = word_of(source, one[1], many)
                a = Worth(one)
                right = kept_after(kept, word)
                self.same(a >> word, right)
                row = row_of(source, one[1])
                rest = kept[0] ** many * plain_worth(kept, (word + row[0], row[1]))
                self.assertEqual(due(a >> word, row), rest)
                changed = a
                changed >>= word
                self.assertIs(changed, a)
                self.same(a, right)

    def test_what_is_kept_after_words(self):
        # The sum along the word is 3, and the state after it comes again.
        a = Worth((2, "ab", (((3, 1), (0, 0)), ((1, 1), (2, 0)))))
        self.assertEqual((a >> "a").plain(), (2, "ab", (
            ((7, 1), (8, 2)), ((1, 1), (2, 2)), ((3, 1), (0, 2)))))
        self.assertEqual((a >> "").plain(), a.plain())
        # The sum along it is 0: nothing is raised.
        self.assertEqual((a >> "b").plain(), a.plain())
        b = Worth((2, "ab", (((3, 1), (0, 0)), ((1, 2), (2, 2)), ((5, 2), (-5, 2)))))
        self.assertEqual((b >> "a").plain(), (2, "ab", (((7, 1), (8, 1)), ((5, 1), (-5, 1)))))
        self.assertEqual((b >> "aa").plain(), (2, "ab", (((19, 1), (9, 1)), ((5, 1), (-5, 1)))))

    def test_sums_along_the_word_beyond_those_that_can_be_added(self):
        a = Worth((9, "a", (((1, 0),),)))
        told = a >> "a" * 29
        k = int(9 ** 29 * sum_along((9, "a", (((1, 0),),)), "a" * 29)[0])
        self.assertGreater(k, 10 ** 20)
        self.assertEqual(told.plain(), (9, "a", (((k + 1, 1),), ((1, 1),))))
        self.assertRaises(TooGreat, operator.rshift, a, "a" * 300)
        none = Worth((9, "a", (((0, 0),),)))
        self.assertEqual((none >> "a" * 300).plain(), none.plain())

    def test_leads_become_safe_and_vain(self):
        # Over is 2: with base 3 a lead above 3 is safe.
        one, other = (3, "ab", (((2, 0), (0, 0)),)), (3, "ab", (((0, 0), (1, 0)),))
        self.assertEqual((Worth(one) | Worth(other)).plain(), (3, "ab", (
            ((2, 1), (1, 2)), ((2, 1), (0, 1)), ((0, 2), (1, 3)), ((0, 3), (1, 3)))))
        # With base 2 a lead above 4 is.
        one, other = (2, "a", (((2, 0),),)), (2, "a", (((0, 0),),))
        self.assertEqual((Worth(one) | Worth(other)).plain(), (2, "a", (((2, 1),), ((2, 2),), ((2, 2),))))

    def test_formulas(self):
        source = series("formulas")
        for one, other in pairs("formulas", 40):
            a, b = Worth(one), Worth(other)
            kept = led(one), led(other)
            k, word = source.randint(-3, 3), word_of(source, one[1], 2)
            try:
                made = ((k * a - b) | (a + k)) >> word
            except TooGreat:
                continue
            for _ in range(6):
                row = row_of(source, one[1])
                x, y = [plain_worth(part, (word + row[0], row[1])) for part in kept]
                self.assertEqual(due(made, row), one[0] ** 2 * max(k * x - y, x + k))
            self.assertIs(is_plain(made.plain()), True)


class RefusedTest(unittest.TestCase):
    def refused(self, error, operation, a, other):
        """The error is raised, and both are as they were; all other names of them, too."""
        before = a.plain()
        kept = other.plain() if type(other) is Worth else None
        try:
            operation(a, other)
        except error as raised:
            self.assertIs(type(raised), error)
        else:
            self.fail(f"{error.__name__} is not raised by {operation.__name__}")
        self.assertEqual(a.plain(), before)
        if kept is not None:
            self.assertEqual(other.plain(), kept)

    def test_no_machines(self):
        for thing in other_things() + [listed(A), A[:2], (10, *A[1:]), Worth(A), free_rule("ab"), [A]]:
            self.assertRaises(NoMachine, Worth, thing)
        self.assertRaises(TooGreat, Worth, EXACT[301])
        self.assertEqual(len(Worth(EXACT[300]).plain()[2]), 300)

    def test_what_is_no_worth(self):
        a = Worth(A)
        for thing in not_worths():
            for operation in [operator.or_, operator.and_, operator.ior, operator.iand, Worth.within, Worth.below]:
                self.refused(NoWorth, operation, a, thing)
            for operation in [operator.add, operator.sub, operator.iadd, operator.isub]:
                self.refused(NoWorth, operation, a, thing)
        for thing in [0, 1, -1, 10 ** 20, 10 ** 60]:
            for operation in [operator.or_, operator.and_, operator.ior, operator.iand, Worth.within, Worth.below]:
                self.refused(NoWorth, operation, a, thing)

    def test_on_the_left(self):
        a = Worth(A)
        for thing in not_worths():
            if not isinstance(thing, (Broken, Agreeing)):
                for operation in [operator.add, operator.sub]:
                    self.refused(NoWorth, lambda right, left: operation(left, right), a, thing)
        for thing in [21, -21, 10 ** 60, True, False, None, 1.0, 2.5, "ab", (1,), [1], b"a", 1j]:
            self.refused(NoFactor, lambda right, left: operator.mul(left, right), a, thing)

    def test_factors(self):
        a = Worth(A)
        for thing in other_things() + [21, -21, Worth(A), (1, 2), "a", [2]]:
            if not (type(thing) is int and abs(thing) <= 20):
                self.refused(NoFactor, operator.mul, a, thing)
                self.refused(NoFactor, operator.imul, a, thing)
        for k in [-20, 20]:
            self.assertEqual((k * a).plain(), (a * k).plain())

    def test_words(self):
        a = Worth(A)
        for thing in other_things() + ["c", "abc", "A", "a" * 301, ("a",), ["a"], b"a", 1, None, Worth(A)]:
            if type(thing) is not str or thing != "":
                self.refused(NoWord, operator.rshift, a, thing)
                self.refused(NoWord, operator.irshift, a, thing)
        none = Worth((2, "ab", (((0, 0), (0, 0)),)))
        self.assertEqual((none >> "b" * 300).plain(), none.plain())

    def test_no_match(self):
        a = Worth(A)
        for machine in [(3, *A[1:]), (2, "ac", A[2]), (2, "bc", A[2]), (2, "a", (((0, 0),),)), EXACT[300], TIES]:
            for operation in [*BINARY, *BINARY.values(), Worth.within, Worth.below]:
                self.refused(NoMatch, operation, a, Worth(machine))
                self.refused(NoMatch, operation, Worth(machine), a)

    def test_too_many_states(self):
        # Words reach 17 * 18 pairs of states.
        a, b = Worth(wheel(2, 17)), Worth(wheel(2, 18))
        for operation in [*BINARY, *BINARY.values()]:
            self.refused(TooGreat, operation, a, b)
        c = Worth(wheel(2, 12))
        self.assertEqual(len((Worth(wheel(2, 25)) + c).plain()[2]), 300)
        self.assertEqual(len((Worth(wheel(2, 25)) | c).plain()[2]), 300)
        self.assertEqual(len((Worth(wheel(2, 25)) & c).plain()[2]), 300)
        self.assertRaises(TooGreat, operator.add, Worth(wheel(2, 43)), Worth(wheel(2, 7)))
        full = (2, "a", tuple([((0, (at + 1) % 300),) for at in range(300)]))
        a = Worth(full)
        for operation in [operator.add, operator.sub, operator.iadd, operator.isub]:
            self.refused(TooGreat, operation, a, 1)
            self.assertEqual(operation(Worth(full), 0).plain(), full)
        self.assertRaises(TooGreat, operator.sub, 1, a)
        ahead = (2, "a", tuple([((0, min(at + 1, 299)),) for at in range(300)]))
        self.assertEqual((Worth(ahead) + 1).plain(), (2, "a", (((1, 1),), *ahead[2][1:])))
        self.assertEqual(len((Worth((2, "a", full[2][:298] + (((0, 0),),))) + 1).plain()[2]), 300)

    def test_too_many_states_after_a_word(self):
        states = tuple([((1 if at == 0 else 0, (at + 1) % 300),) for at in range(300)])
        a = Worth((2, "a", states))
        self.refused(TooGreat, operator.rshift, a, "a")
        self.refused(TooGreat, operator.irshift, a, "a")
        # The first state is not reached any more.
        ahead = (2, "a", (((1, 1),),) + tuple([((0, at % 299 + 1),) for at in range(1, 300)]))
        self.assertEqual(len(ahead[2]), 300)
        self.assertEqual(len((Worth(ahead) >> "a").plain()[2]), 300)

    def test_pays_that_are_too_great(self):
        great = Worth((2, "a", (((10 ** 30, 0),),)))
        self.refused(TooGreat, operator.mul, great, 2)
        self.refused(TooGreat, operator.imul, great, -2)
        self.refused(TooGreat, lambda right, left: operator.mul(left, right), great, 20)
        for k in [-1, 0, 1]:
            self.assertEqual((k * great).plain(), (2, "a", (((k * 10 ** 30, 0),),)))
        for operation in [operator.add, operator.iadd]:
            self.refused(TooGreat, operation, great, 1)
            self.refused(TooGreat, operation, great, great)
        self.assertEqual((great - 1).plain(), (2, "a", (((10 ** 30 - 1, 1),), ((10 ** 30, 1),))))
        self.refused(TooGreat, operator.sub, great, -great)
        self.refused(TooGreat, operator.isub, great, Worth((2, "a", (((-1, 0),),))))
        self.assertRaises(TooGreat, operator.sub, -1, great)
        self.assertEqual((1 - great).plain(), (2, "a", (((1 - 10 ** 30, 1),), ((-(10 ** 30), 1),))))
        self.refused(TooGreat, operator.rshift, great, "a")
        self.assertEqual((great - great).plain(), (2, "a", (((0, 0),),)))
        self.assertEqual((great | great).plain(), great.plain())

    def test_pays_that_no_word_reaches(self):
        # The pay of state 1 of both together is never due.
        one = Worth((2, "a", (((10 ** 30, 1),), ((0, 0),))))
        other = Worth((2, "a", (((0, 1),), ((10 ** 30, 0),))))
        self.assertEqual((one + other).plain(), (2, "a", (((10 ** 30, 1),), ((10 ** 30, 0),))))

    def test_the_order_of_errors(self):
        great, other = Worth((2, "a", (((10 ** 30, 0),),))), Worth((3, "a", (((10 ** 30, 0),),)))
        self.refused(NoMatch, operator.add, great, other)
        self.refused(NoWorth, operator.add, great, 10 ** 20 + 1)
        self.refused(TooGreat, operator.add, great, 10 ** 20)
        self.refused(NoFactor, operator.mul, great, 21)
        self.refused(TooGreat, operator.mul, great, 20)
        self.refused(NoWord, operator.rshift, great, "b")
        self.refused(NoMatch, operator.or_, Worth(wheel(2, 43)), Worth(wheel(3, 7)))
        self.refused(TooGreat, operator.or_, Worth(wheel(2, 43)), Worth(wheel(2, 7)))

    def test_rows(self):
        a = Worth(A)
        for thing in other_things() + [("", ""), ("", "c"), ["", "a"], ("a" * 1501, "a"), ("a", "a" * 1501), "a"]:
            with self.assertRaises(NoRow):
                a(thing)
        self.assertEqual(a(row=("a" * 1500, "b" * 1500)), number(plain_worth(A, ("a" * 1500, "b"))))


class NamesTest(unittest.TestCase):
    def test_one_object_under_two_names(self):
        a = Worth(A)
        b, things = a, [a]
        for change in [lambda one: operator.iadd(one, 1), lambda one: operator.isub(one, Worth(B)),
                       lambda one: operator.imul(one, -2), lambda one: operator.ior(one, Worth(B)),
                       lambda one: operator.iand(one, one), lambda one: operator.irshift(one, "ab"),
                       lambda one: operator.iadd(one, one)]:
            self.assertIs(change(b), a)
            self.assertEqual([b.plain(), things[0].plain()], [a.plain()] * 2)

    def test_the_right_side_is_read_before(self):
        for in_place in BINARY.values():
            a, b = Worth(A), Worth(B)
            kept = b.plain()
            in_place(a, b)
            told = a.plain()
            self.assertEqual(b.plain(), kept)
            b += 5
            b *= 3
            # Nothing of b is left in a.
            self.assertEqual(a.plain(), told)

    def test_operators_leave_both_as_they_were(self):
        a, b = Worth(A), Worth(B)
        made = [a + b, a - b, a | b, a & b, -a, 3 * a, a * 3, a + 1, 1 + a, a - 1, 1 - a, a >> "ab"]
        made = made + [a + 0, a * 1, a >> "", a | a, a & a]
        self.assertEqual(len({id(one) for one in made + [a, b]}), len(made) + 2)
        self.assertEqual([a.plain(), b.plain()], [A, B])
        for one in made:
            one += 1
            one *= 2
        self.assertEqual([a.plain(), b.plain()], [A, B])

    def test_properties_are_not_assigned(self):
        a = Worth(MACHINE)
        for name in ["base", "letters", "states"]:
            with self.assertRaises(AttributeError):
                setattr(a, name, 3)
        self.assertEqual([a.base, a.letters, a.states], [2, "ab", 2])

    def test_arguments_by_name(self):
        a = Worth(machine=MACHINE)
        self.assertEqual(a.plain(), led(MACHINE))
        rule = free_rule("ab")
        self.assertEqual([a.most(rule=rule), a.least(rule=rule)], [a.most(rule), a.least(rule)])
        self.assertEqual([a.within(other=a), a.below(other=a)], [True, False])


if __name__ == "__main__":
    unittest.main()
