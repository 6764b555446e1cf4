"""Letters, machines, plain machines and rules: their bounds and their kinds."""

import copy
import itertools
import string
import unittest

from laterless.errors import NoLetters
from laterless.machines import free_rule, is_machine, is_plain, is_rule
from parts import listed, of_other_kinds, other_things, part_at, paths_of, put

# Each state is named in two states or more: whichever of them is left out, a number is too great.
MACHINE = (3, "ab", (
    (((0, 3), (1, 1)), ((1, 0),)),
    (((2, 1), (-20, 2), (20, 3)), ((0, 0), (1, 0))),
    (((0, 0),), ((0, 3), (-1, 3), (1, 0))),
    (((5, 2),), ((1, 1), (0, 1))),
))
PLAIN = (7, "adz", (
    ((10 ** 30, 2), (1, 1), (0, 0)),
    ((-(10 ** 30), 0), (0, 2), (1, 1)),
    ((0, 1), (0, 0), (-3, 2)),
))
RULE = ("ab", ((3, None), (0, 1), (None, 2), (1, 3)))

GOOD_LETTERS = ["a", "z", "m", "ab", "az", "yz", "abc", "xyz", "amz", "acz"]
BAD_LETTERS = [
    "", "abcd", "abcdefghijklmnopqrstuvwxyz", "aa", "ba", "aab", "abb", "acb", "bac", "cba", "zya", "aba",
    "A", "Z", "aB", "Ab", "a1", "1a", "0", "a b", " a", "a ", "ab\n", "`a", "a{", "{", "`", "-", "a-",
    "\u00e4", "a\u00e4", "z\u00e4", "\u00aa", "\u0430", "a\u0300", "\uff41", "\x00", "\x00a", "a\x00",
]


def one_state(choice, base=2, letters="a"):
    """A machine with one state and this choice at each letter."""
    return (base, letters, ((choice,) * len(letters),))


def plain_of(pair, many):
    return (2, "a", ((pair,),) * many)


class BoundsTest(unittest.TestCase):
    def test_samples(self):
        self.assertEqual([is_machine(thing) for thing in [MACHINE, PLAIN, RULE]], [True, False, False])
        self.assertEqual([is_plain(thing) for thing in [MACHINE, PLAIN, RULE]], [False, True, False])
        self.assertEqual([is_rule(thing) for thing in [MACHINE, PLAIN, RULE]], [False, False, True])

    def test_bases(self):
        for base in [-2, -1, 0, 1, 2, 3, 4, 5, 6, 7, 8, 9, 10, 11, 16, 10 ** 60]:
            with self.subTest(base):
                right = 2 <= base <= 9
                self.assertIs(is_machine((base,) + MACHINE[1:]), right)
                self.assertIs(is_plain((base,) + PLAIN[1:]), right)

    def test_letters(self):
        for letters in GOOD_LETTERS + BAD_LETTERS:
            with self.subTest(letters):
                right = letters in GOOD_LETTERS
                self.assertIs(is_machine((2, letters, ((((0, 0),),) * len(letters),))), right)
                self.assertIs(is_plain((2, letters, (((0, 0),) * len(letters),))), right)
                self.assertIs(is_rule((letters, ((0,) * len(letters),))), right)

    def test_each_character_alone(self):
        for character in [chr(code) for code in range(400)]:
            right = character in string.ascii_lowercase
            self.assertIs(is_rule((character, ((0,),))), right)

    def test_members_for_each_letter(self):
        for many in range(6):
            with self.subTest(many):
                self.assertIs(is_machine((2, "abc", ((((0, 0),),) * many,))), many == 3)
                self.assertIs(is_plain((2, "abc", (((0, 0),) * many,))), many == 3)
                self.assertIs(is_rule(("abc", ((0,) * many,))), many == 3)

    def test_many_states(self):
        for many in range(7):
            with self.subTest(many):
                self.assertIs(is_machine((2, "a", ((((0, 0),),),) * many)), 1 <= many <= 4)
                self.assertIs(is_rule(("a", ((0,),) * many)), 1 <= many <= 4)
        for many in [0, 1, 2, 4, 5, 299, 300, 301, 400]:
            with self.subTest(many):
                self.assertIs(is_plain(plain_of((0, 0), many)), 1 <= many <= 300)

    def test_many_pairs(self):
        for many in range(7):
            with self.subTest(many):
                pairs = tuple([(pay, 0) for pay in range(many)])
                self.assertIs(is_machine(one_state(pairs)), 1 <= many <= 3)

    def test_equal_pairs(self):
        for pairs in itertools.product([(0, 0), (0, 1), (1, 0)], repeat=3):
            for many in [2, 3]:
                with self.subTest(pairs[:many]):
                    machine = (2, "a", ((pairs[:many],), (((0, 0),),)))
                    self.assertIs(is_machine(machine), len(set(pairs[:many])) == many)

    def test_pays(self):
        for pay in [-10 ** 60, -10 ** 30, -22, -21, -20, -19, 0, 19, 20, 21, 22, 10 ** 30, 10 ** 60]:
            with self.subTest(pay):
                self.assertIs(is_machine(one_state(((pay, 0),))), -20 <= pay <= 20)
                self.assertIs(is_machine(one_state(((0, 0), (pay, 0)))), -20 <= pay <= 20 and pay != 0)

    def test_plain_pays(self):
        for pay in [0, 20, 21, 10 ** 29, 10 ** 30 - 1, 10 ** 30]:
            self.assertIs(is_plain(plain_of((pay, 0), 1)), True)
            self.assertIs(is_plain(plain_of((-pay, 0), 1)), True)
        for pay in [10 ** 30 + 1, 10 ** 31, 10 ** 60]:
            self.assertIs(is_plain(plain_of((pay, 0), 1)), False)
            self.assertIs(is_plain(plain_of((-pay, 0), 1)), False)

    def test_states_that_do_not_exist(self):
        for many in [1, 2, 4]:
            for state in [-10 ** 60, -many, -1, 0, 1, 2, 3, 4, 5, 10 ** 60]:
                with self.subTest(many, state=state):
                    right = 0 <= state < many
                    self.assertIs(is_machine((2, "a", ((((0, state),),),) * many)), right)
                    self.assertIs(is_machine((2, "a", ((((0, 0), (0, state)),),) * many)), right and state != 0)
                    self.assertIs(is_plain(plain_of((0, state), many)), right)
                    self.assertIs(is_rule(("a", ((state,),) * many)), right)
        for state in [-300, -1, 0, 299, 300, 301]:
            self.assertIs(is_plain(plain_of((0, state), 300)), 0 <= state < 300)

    def test_none_in_rules(self):
        for letters in ["a", "ab", "abc"]:
            for state in itertools.product([0, 1, None], repeat=len(letters)):
                with self.subTest(state):
                    right = state.count(None) < len(state)
                    self.assertIs(is_rule((letters, (state, (0,) * len(letters)))), right)
                    self.assertIs(is_rule((letters, ((0,) * len(letters), state))), right)

    def test_none_in_machines(self):
        self.assertIs(is_machine((2, "ab", ((((0, 0),), None),))), False)
        self.assertIs(is_plain((2, "ab", (((0, 0), None),))), False)


class KindsTest(unittest.TestCase):
    def check(self, check, sample):
        """Replace each part, at any depth, by values of other kinds."""
        for path in paths_of(sample)[1:]:
            for place, wrong in enumerate(of_other_kinds(part_at(sample, path))):
                with self.subTest(path, place=place):
                    self.assertIs(check(put(sample, path, [wrong])), False)

    def test_other_kinds_within(self):
        self.check(is_machine, MACHINE)
        self.check(is_plain, PLAIN)
        self.check(is_rule, put(RULE, (1, 0, 1), [0]))

    def test_none_within(self):
        for check, sample in [(is_machine, MACHINE), (is_plain, PLAIN)]:
            for path in paths_of(sample)[1:]:
                self.assertIs(check(put(sample, path, [None])), False)
        for path in paths_of(RULE)[1:]:
            still = len(path) == 3 and part_at(RULE, path[:2]).count(None) == 0
            self.assertIs(is_rule(put(RULE, path, [None])), still or part_at(RULE, path) is None)

    def test_booleans_that_equal_the_integers(self):
        self.assertIs(is_machine((2, "ab", ((((False, 0),), ((0, 0),)),))), False)
        self.assertIs(is_machine((2, "ab", ((((0, False),), ((0, 0),)),))), False)
        self.assertIs(is_machine((2, "ab", ((((1, 0), (True, 0)), ((0, 0),)),))), False)
        self.assertIs(is_plain((2, "a", (((True, 0),),))), False)
        self.assertIs(is_plain((2, "a", (((0, False),),))), False)
        self.assertIs(is_rule(("a", ((False,),))), False)
        self.assertIs(is_rule(("ab", ((0, True), (0, 0)))), False)

    def test_lists_alone(self):
        for check, sample in [(is_machine, MACHINE), (is_plain, PLAIN), (is_rule, RULE)]:
            self.assertIs(check(listed(sample)), False)
            for path in paths_of(sample):
                part = part_at(sample, path)
                if path and isinstance(part, tuple):
                    self.assertIs(check(put(sample, path, [listed(part)])), False)

    def test_left_out(self):
        for check, sample in [(is_machine, MACHINE), (is_plain, PLAIN), (is_rule, RULE)]:
            for path in paths_of(sample)[1:]:
                with self.subTest(check.__name__, path=path):
                    # A machine may lose a pair of a choice that has others.
                    still = check == is_machine and len(path) == 4 and len(part_at(sample, path[:3])) > 1
                    self.assertIs(check(put(sample, path, [])), still)

    def test_put_in_twice(self):
        for check, sample in [(is_machine, MACHINE), (is_plain, PLAIN), (is_rule, RULE)]:
            for path in paths_of(sample)[1:]:
                with self.subTest(check.__name__, path=path):
                    part = part_at(sample, path)
                    # This plain machine may have one state more.
                    still = check == is_plain and len(path) == 2
                    self.assertIs(check(put(sample, path, [part, part])), still)

    def test_more_members(self):
        for check, sample in [(is_machine, MACHINE), (is_plain, PLAIN), (is_rule, RULE)]:
            for more in [None, 0, (), sample[-1]]:
                self.assertIs(check(sample + (more,)), False)
                self.assertIs(check((more,) + sample), False)
            self.assertIs(check((sample,)), False)
            self.assertIs(check((sample, sample)), False)

    def test_a_machine_is_no_plain_machine(self):
        self.assertIs(is_machine((2, "ab", (((0, 0), (1, 0)),))), False)
        self.assertIs(is_plain((2, "ab", ((((0, 0),), ((1, 0),)),))), False)

    def test_a_rule_is_no_machine(self):
        self.assertIs(is_machine(("a", ((0,),))), False)
        self.assertIs(is_machine((2, "a", ((0,),))), False)
        self.assertIs(is_plain((2, "a", ((0,),))), False)
        self.assertIs(is_rule((2, "a", ((0,),))), False)


class AnyThingTest(unittest.TestCase):
    def test_other_things(self):
        for check in [is_machine, is_plain, is_rule]:
            for place, thing in enumerate(other_things()):
                with self.subTest(check.__name__, place=place):
                    self.assertIs(check(thing), False)

    def test_great_and_deep(self):
        deep = ()
        for _ in range(8):
            deep = (deep,)
        for check in [is_machine, is_plain, is_rule]:
            for thing in [deep, (0,) * 9000, [0] * 9000, "a" * 2000, dict.fromkeys(range(9000))]:
                self.assertIs(check(thing), False)
                self.assertIs(check((2, "a", thing)), False)
                self.assertIs(check(("a", thing)), False)

    def test_by_name(self):
        self.assertEqual([is_machine(thing=MACHINE), is_plain(thing=PLAIN), is_rule(thing=RULE)], [True, True, True])

    def test_things_are_as_before(self):
        for check, sample in [(is_machine, MACHINE), (is_plain, PLAIN), (is_rule, RULE)]:
            for thing in [sample, listed(sample), put(sample, (len(sample) - 1, 0), [[[0, 0]]])]:
                before = copy.deepcopy(thing)
                check(thing)
                self.assertEqual(thing, before)
                self.assertEqual(repr(thing), repr(before))


class FreeRuleTest(unittest.TestCase):
    def test_letters(self):
        self.assertEqual(free_rule("a"), ("a", ((0,),)))
        self.assertEqual(free_rule("ab"), ("ab", ((0, 0),)))
        for letters in GOOD_LETTERS:
            with self.subTest(letters):
                rule = free_rule(letters)
                self.assertEqual(rule, (letters, ((0,) * len(letters),)))
                self.assertIs(is_rule(rule), True)

    def test_by_name(self):
        self.assertEqual(free_rule(letters="xyz"), ("xyz", ((0, 0, 0),)))

    def test_no_letters(self):
        wrong = [("a",), ["a"], ["a", "b"], ("a", "b"), {"a": 0}, b"a", b"ab"]
        for place, thing in enumerate(BAD_LETTERS + wrong + other_things()):
            with self.subTest(place):
                self.assertRaises(NoLetters, free_rule, thing)


if __name__ == "__main__":
    unittest.main()
