"""Which words and rows are of a rule."""

import itertools
import unittest

from laterless.errors import NoRule, NoWord
from laterless.machines import free_rule, is_of
from parts import Agreeing, Broken, other_things

RULE = ("ab", ((0, 1), (0, None)))
# After each a of a turn it is one state on, and only three of them may follow one another.
STEPS = ("ab", ((1, 0), (2, 0), (3, 0), (None, 0)))
RULES = [
    RULE, STEPS, free_rule("a"), free_rule("ab"), free_rule("abc"), ("a", ((0,),)), ("ab", ((0, None),)),
    ("ab", ((None, 1), (0, None))), ("ab", ((1, 1), (None, 2), (2, None))),
    ("abc", ((1, None, 0), (None, 2, None), (0, 3, 2), (None, None, 3))),
]
NO_WORDS = ["c", "abc", "A", "aB", " ", "a ", "\n", "a\n", "1", "\u00e4", "a" * 1501, "ab" * 1000, "b" * 1501]
NO_STRINGS = [("a",), ["a"], ["a", "b"], (), [], {}, {"a": 0}, b"", b"a", 0, 1, True, False, 1.5, Agreeing(), Broken()]
NO_RULES = [
    ("ab", ((0, 1), (0, 2))), ("ab", ((0, 1), (None, None))), ("ab", ((0, 1), [0, None])), ["ab", ((0, 1), (0, None))],
    ("ba", ((0, 0),)), ("ab", ((0,),)), ("ab", ()), ("ab", ((0, True), (0, 0))), (2, "ab", (((0, 0), (1, 0)),)),
    ("ab", ((0, 0),) * 5), ("abcd", ((0, 0, 0, 0),)), "ab",
]


def steps_of(rule, text):
    """How many letters of the text are allowed, one after the other."""
    state = 0
    for many, letter in enumerate(text):
        state = dict(zip(rule[0], rule[1][state]))[letter]
        if state is None:
            return many
    return len(text)


def words(letters, most):
    for many in range(most + 1):
        for word in itertools.product(letters, repeat=many):
            yield "".join(word)


class WordsTest(unittest.TestCase):
    def test_let_by_and_barred(self):
        for word, right in [("", True), ("a", True), ("b", True), ("ab", True), ("ba", True), ("aba", True),
                            ("bab", True), ("bb", False), ("abb", False), ("babb", False), ("bba", False)]:
            with self.subTest(word):
                self.assertIs(is_of(RULE, word), right)

    def test_the_empty_word(self):
        for rule in RULES:
            self.assertIs(is_of(rule, ""), True)

    def test_all_short_words(self):
        for rule in RULES:
            for word in words(rule[0], 5):
                self.assertIs(is_of(rule, word), steps_of(rule, word) == len(word))

    def test_without_ring(self):
        self.assertIs(is_of(RULE, "ab", ring=None), True)
        self.assertIs(is_of(RULE, "abb", ring=None), False)

    def test_long(self):
        self.assertIs(is_of(RULE, "ab" * 750), True)
        self.assertIs(is_of(RULE, "ab" * 749 + "bb"), False)
        self.assertIs(is_of(RULE, "a" * 1500), True)
        self.assertRaises(NoWord, is_of, RULE, "a" * 1501)
        self.assertRaises(NoWord, is_of, RULE, "b" * 1501)

    def test_by_name(self):
        self.assertIs(is_of(word="bb", rule=RULE), False)
        self.assertIs(is_of(ring="a", word="bb", rule=RULE), False)

    def test_ring_by_name_alone(self):
        self.assertRaises(TypeError, is_of, RULE, "a", "a")


class RowsTest(unittest.TestCase):
    def test_let_by_and_barred(self):
        for word, ring, right in [("", "a", True), ("", "b", False), ("", "ab", True), ("", "ba", True),
                                  ("ab", "ab", True), ("b", "ba", False), ("b", "ab", True), ("bb", "a", False),
                                  ("", "abba", False), ("a", "bab", False), ("abb", "a", False)]:
            with self.subTest(word, ring=ring):
                self.assertIs(is_of(RULE, word, ring=ring), right)

    def test_barred_in_a_late_turn(self):
        self.assertEqual([is_of(STEPS, "", ring="a"), is_of(STEPS, "", ring="aab")], [False, True])
        self.assertEqual([is_of(STEPS, "aaa", ring=ring) for ring in ["a", "ba", "baaa", "ab"]],
                         [False, True, True, False])
        late = ("ab", ((1, None), (2, None), (3, None), (None, 3)))
        self.assertEqual([is_of(late, word) for word in ["aaa", "aaaa"]], [True, False])
        self.assertEqual([is_of(late, word, ring="a") for word in ["", "a", "aa", "aaa"]], [False] * 4)
        self.assertEqual([is_of(late, word, ring="b") for word in ["", "a", "aa", "aaa"]], [False] * 3 + [True])

    def test_let_by_after_some_turns(self):
        slow = ("ab", ((1, None), (2, None), (3, None), (3, None)))
        self.assertEqual([is_of(slow, "", ring=ring) for ring in ["a", "aa", "ab"]], [True, True, False])
        around = ("ab", ((1, None), (2, None), (3, None), (0, None)))
        self.assertEqual([is_of(around, "a", ring=ring) for ring in ["a", "aaa", "aaaab"]], [True, True, False])

    def test_all_short_rows(self):
        for rule in RULES:
            for word in words(rule[0], 3):
                for ring in words(rule[0], 3):
                    if ring:
                        # Six turns are more than any of these rules has states.
                        text = word + ring * 6
                        self.assertIs(is_of(rule, word, ring=ring), steps_of(rule, text) == len(text))

    def test_long(self):
        self.assertIs(is_of(RULE, "ab" * 750, ring="ab" * 750), True)
        self.assertIs(is_of(RULE, "ab" * 750, ring="ba" * 750), False)
        self.assertIs(is_of(RULE, "", ring="a" * 1500), True)
        self.assertIs(is_of(RULE, "", ring="a" * 1498 + "bb"), False)
        self.assertRaises(NoWord, is_of, RULE, "", ring="a" * 1501)
        self.assertRaises(NoWord, is_of, RULE, "bb", ring="b" * 1501)
        self.assertRaises(NoWord, is_of, RULE, "a" * 1501, ring="a")


class WrongTest(unittest.TestCase):
    def test_word(self):
        for place, word in enumerate(NO_WORDS + NO_STRINGS + [None]):
            with self.subTest(place):
                self.assertRaises(NoWord, is_of, RULE, word)
                self.assertRaises(NoWord, is_of, RULE, word, ring="a")

    def test_ring(self):
        for place, ring in enumerate([""] + NO_WORDS + NO_STRINGS):
            with self.subTest(place):
                for word in ["", "a", "bb"]:
                    self.assertRaises(NoWord, is_of, RULE, word, ring=ring)

    def test_rule(self):
        for place, rule in enumerate(NO_RULES + other_things()):
            with self.subTest(place):
                self.assertRaises(NoRule, is_of, rule, "a")
                self.assertRaises(NoRule, is_of, rule, "a", ring="a")

    def test_letters_are_the_rules(self):
        self.assertIs(is_of(free_rule("xz"), "zx", ring="x"), True)
        self.assertRaises(NoWord, is_of, free_rule("xz"), "y")
        self.assertRaises(NoWord, is_of, free_rule("xz"), "xz", ring="y")
        self.assertRaises(NoWord, is_of, free_rule("a"), "b")

    def test_order(self):
        self.assertRaises(NoRule, is_of, NO_RULES[0], "c")
        self.assertRaises(NoRule, is_of, NO_RULES[0], "c", ring="")
        self.assertRaises(NoRule, is_of, NO_RULES[0], "a", ring="")
        self.assertRaisesRegex(NoWord, "^word", is_of, RULE, "c", ring="")
        self.assertRaisesRegex(NoWord, "^ring", is_of, RULE, "a", ring="")

    def test_arguments_are_as_before(self):
        rule, word, ring = ["ab", [[0, 1], [0, None]]], ["a"], ["b"]
        self.assertRaises(NoRule, is_of, rule, word, ring=ring)
        self.assertRaises(NoWord, is_of, RULE, word, ring=ring)
        self.assertRaises(NoWord, is_of, RULE, "", ring=ring)
        self.assertEqual([rule, word, ring], [["ab", [[0, 1], [0, None]]], ["a"], ["b"]])


if __name__ == "__main__":
    unittest.main()
