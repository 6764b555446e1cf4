"""Walks: letters read and taken back, stretches, and what is known and sure after a word."""

import unittest
from fractions import Fraction

from laterless.errors import NoLetter, NoMachine, NoNumber, NoRule, NoUndo, NoWord, TooGreat
from laterless.lacks import lacks_after, led, sum_after
from laterless.machines import free_rule, is_of
from laterless.spans import span
from laterless.walks import Walk
from laterless.worths import Worth
from makers import EXACT, MACHINE, machine_of, plain_of, rows_that_begin, rule_of, series, step, wheel, word_of_rule
from parts import listed, other_things
from reckoning import number, pays_of
from slow import fraction, plain_worth

RULE = ("ab", ((0, 1), (0, None)))


def told(walk):
    """All that a walk says."""
    return [walk.word(), len(walk), walk.lacks(), walk.total(), walk.span()]


def right(machine, rule, word):
    """What a walk says after the word."""
    return [word, len(word), lacks_after(machine, word), sum_after(machine, word), span(machine, rule, word)]


def contests(name, many):
    """Machines with choices and plain ones, with rules."""
    source, found = series(name), []
    for at in range(many):
        base, letters = source.choice([2, 2, 3, 9]), "abc"[:1 + at % 3]
        machine = plain_of(source, base, letters, most=5) if at % 3 == 2 else machine_of(
            source, base, letters, source.randint(1, 3), source.choice([1, 2, 5]))
        found.append((machine, rule_of(source, letters) if at % 4 else free_rule(letters)))
    return found


class Passing(Exception):
    """An error of the tests' own."""


class ReadTest(unittest.TestCase):
    def test_small(self):
        walk = Walk(MACHINE, free_rule("ab"))
        self.assertIs(walk.read("a"), None)
        self.assertEqual([walk.total(), [end[0] for end in walk.span()], walk.sure((1, 1)), walk.sure((2, 1))],
                         [(1, 1), [(4, 3), (3, 1)], "above", "open"])
        self.assertEqual([walk.word(), len(walk), walk.lacks()], ["a", 1, {0: 2, 1: 0}])
        self.assertIs(walk.undo(), None)
        self.assertEqual([walk.word(), len(walk), walk.lacks(), walk.total()], ["", 0, {0: 0}, (0, 1)])

    def test_words(self):
        source = series("walks")
        for machine, rule in contests("walks", 60):
            walk, word = Walk(machine, rule), ""
            self.assertEqual(told(walk), right(machine, rule, ""))
            for letter in word_of_rule(source, rule, 6):
                walk.read(letter)
                word += letter
                self.assertEqual(told(walk), right(machine, rule, word))
            for _ in range(6):
                walk.undo()
                word = word[:-1]
                self.assertEqual(told(walk), right(machine, rule, word))
            self.assertRaises(NoUndo, walk.undo)

    def test_any_calls(self):
        source = series("calls")
        for machine, rule in contests("calls", 40):
            walk, word = Walk(machine, rule), ""
            for _ in range(40):
                choice = source.random()
                if choice < 0.4:
                    letter = source.choice(machine[1])
                    if is_of(rule, word + letter):
                        walk.read(letter)
                        word += letter
                    else:
                        self.assertRaises(NoLetter, walk.read, letter)
                elif choice < 0.7:
                    if word:
                        walk.undo()
                        word = word[:-1]
                    else:
                        self.assertRaises(NoUndo, walk.undo)
                elif choice < 0.8:
                    wrong = source.choice(["", "ab", "A", "-", "d", None, 1, b"a", ["a"]])
                    self.assertRaises(NoLetter, walk.read, wrong)
                else:
                    self.assertRaises(NoNumber, walk.sure, source.choice([None, 1, (2, 4), (1, 0), (True, 1)]))
                self.assertEqual([walk.word(), walk.lacks(), walk.total()],
                                 [word, lacks_after(machine, word), sum_after(machine, word)])
            self.assertEqual(told(walk), right(machine, rule, word))

    def test_letters_that_the_rule_bars(self):
        walk = Walk(MACHINE, RULE)
        walk.read("b")
        for letter in ["b", "c", "", "bb", "aa", "ab", "B"]:
            self.assertRaises(NoLetter, walk.read, letter)
        for thing in other_things() + [("a",), ["a"], {"a": 1}, b"a"]:
            self.assertRaises(NoLetter, walk.read, thing)
        self.assertEqual(told(walk), right(MACHINE, RULE, "b"))
        walk.read("a")
        walk.read("a")
        self.assertEqual(walk.word(), "baa")

    def test_the_letter_beyond_300(self):
        walk = Walk(MACHINE, RULE)
        for letter in "ba" * 150:
            walk.read(letter)
        self.assertEqual([len(walk), walk.word()], [300, "ba" * 150])
        before = told(walk)
        # The letters ahead of the errors: what is no letter here is told first.
        for letter, error in [("a", NoWord), ("b", NoWord), ("c", NoLetter), ("", NoLetter), (None, NoLetter)]:
            self.assertRaises(error, walk.read, letter)
        self.assertEqual(told(walk), before)
        self.assertEqual(before, right(MACHINE, RULE, "ba" * 150))
        walk.undo()
        self.assertRaises(NoLetter, Walk(MACHINE, ("ab", ((0, None),))).read, "b")
        walk.read("a")
        self.assertEqual(len(walk), 300)
        barred = Walk(MACHINE, ("ab", ((0, None),)))
        for _ in range(300):
            barred.read("a")
        self.assertRaises(NoLetter, barred.read, "b")
        self.assertRaises(NoWord, barred.read, "a")

    def test_nothing_to_take_back(self):
        walk = Walk(MACHINE, RULE)
        self.assertRaises(NoUndo, walk.undo)
        walk.read("a")
        walk.undo()
        self.assertRaises(NoUndo, walk.undo)
        self.assertEqual(told(walk), right(MACHINE, RULE, ""))

    def test_arguments_by_name(self):
        walk = Walk(rule=RULE, machine=MACHINE)
        walk.read(letter="a")
        self.assertEqual(walk.sure(number=(1, 1)), walk.sure((1, 1)))
        self.assertEqual(told(walk), right(MACHINE, RULE, "a"))

    def test_errors_of_the_constructor(self):
        for thing in other_things() + [listed(MACHINE), RULE, "ab", [MACHINE]]:
            self.assertRaises(NoMachine, Walk, thing, RULE)
            self.assertRaises(NoMachine, Walk, thing, None)
        for thing in other_things() + [free_rule("a"), free_rule("abc"), listed(RULE), ("ab", ((0, 2),)), MACHINE]:
            self.assertRaises(NoRule, Walk, MACHINE, thing)
            self.assertRaises(NoRule, Walk, Worth(MACHINE), thing)
        self.assertRaises(NoRule, Walk, EXACT[301], RULE)

    def test_too_great(self):
        walk = Walk(EXACT[301], free_rule("abc"))
        for letter in "abcab":
            walk.read(letter)
        self.assertEqual(walk.lacks(), lacks_after(EXACT[301], "abcab"))
        self.assertEqual(walk.total(), sum_after(EXACT[301], "abcab"))
        self.assertRaises(TooGreat, walk.span)
        self.assertRaises(TooGreat, walk.sure, (0, 1))
        self.assertRaises(NoNumber, walk.sure, 0)
        self.assertEqual(walk.word(), "abcab")
        walk = Walk(EXACT[300], free_rule("abc"))
        walk.read("c")
        self.assertEqual(walk.span(), span(EXACT[300], free_rule("abc"), "c"))


class WorthTest(unittest.TestCase):
    def test_as_it_was_then(self):
        a = Worth(MACHINE)
        walk, kept = Walk(a, free_rule("ab")), a.plain()
        walk.read("a")
        a += 7
        a *= -3
        walk.read("b")
        self.assertEqual(told(walk), right(kept, free_rule("ab"), "ab"))
        later = Walk(a, free_rule("ab"))
        later.read("a")
        self.assertEqual(told(later), right(a.plain(), free_rule("ab"), "a"))
        self.assertEqual([type(walk.lacks()), list(walk.lacks().values())], [dict, [0]])

    def test_lacks_of_the_plain_machine(self):
        walk = Walk(Worth(MACHINE), free_rule("ab"))
        walk.read("a")
        self.assertEqual(walk.lacks(), {1: 0})
        self.assertEqual(walk.total(), sum_after(led(MACHINE), "a"))


class SureTest(unittest.TestCase):
    def test_small(self):
        walk = Walk(MACHINE, ("ab", ((0, None),)))
        self.assertEqual([walk.sure(told) for told in [(2, 1), (3, 1), (4, 1)]], ["above", "equal", "below"])
        walk = Walk(MACHINE, free_rule("ab"))
        walk.read("a")
        least, most = [end[0] for end in walk.span()]
        self.assertEqual([walk.sure(least), walk.sure(most)], ["open", "open"])

    def test_against_the_span(self):
        source, found = series("sure"), {}
        for machine, rule in contests("sure", 60):
            walk = Walk(machine, rule)
            for letter in word_of_rule(source, rule, source.randint(0, 5)):
                walk.read(letter)
            least, most = [fraction(end[0]) for end in walk.span()]
            near = Fraction(1, 10 ** 20)
            for told_number in [least, most, (least + most) / 2, least - near, most + near, least + near, most - near]:
                sure = walk.sure(number(told_number))
                found[sure] = found.get(sure, 0) + 1
                if least == most == told_number:
                    self.assertEqual(sure, "equal")
                elif least > told_number:
                    self.assertEqual(sure, "above")
                elif most < told_number:
                    self.assertEqual(sure, "below")
                else:
                    self.assertEqual(sure, "open")
        self.assertTrue(min(found.values()) > 5 and len(found) == 4)

    def test_against_drawn_rows(self):
        source = series("sure rows")
        for machine, rule in contests("sure rows", 40):
            walk = Walk(machine, rule)
            for letter in word_of_rule(source, rule, 3):
                walk.read(letter)
            rows = rows_that_begin(source, rule, walk.word(), 8)
            worths = [plain_worth(led(machine), row) for row in rows]
            sure = walk.sure(number(worths[0]))
            self.assertIn(sure, ["equal", "open"])
            if len(set(worths)) > 1:
                self.assertEqual(sure, "open")
            for worth in worths:
                self.assertTrue(fraction(walk.span()[0][0]) <= worth <= fraction(walk.span()[1][0]))

    def test_no_numbers(self):
        walk = Walk(MACHINE, RULE)
        for thing in other_things() + [(2, 4), (1, 0), (1, -1), [1, 2], (True, 1), (1, True), (1, 2, 3)]:
            self.assertRaises(NoNumber, walk.sure, thing)
        self.assertEqual(walk.sure((10 ** 60, 1)), "below")
        self.assertEqual(walk.sure((-(10 ** 60), 10 ** 60 + 1)), "above")


class StretchTest(unittest.TestCase):
    def test_as_it_was(self):
        walk = Walk(MACHINE, RULE)
        walk.read("a")
        walk.read("b")
        before = told(walk)
        with walk as inner:
            self.assertIs(inner, walk)
            walk.read("a")
            walk.read("a")
            self.assertEqual(walk.word(), "abaa")
        self.assertEqual(told(walk), before)
        walk.undo()
        walk.undo()
        self.assertRaises(NoUndo, walk.undo)

    def test_undo_behind_the_beginning(self):
        walk = Walk(MACHINE, RULE)
        for letter in "aba":
            walk.read(letter)
        before = told(walk)
        with walk:
            walk.undo()
            walk.undo()
            self.assertEqual(walk.word(), "a")
            walk.read("a")
            with walk:
                for _ in range(2):
                    walk.undo()
                self.assertRaises(NoUndo, walk.undo)
                walk.read("b")
                self.assertRaises(NoLetter, walk.read, "b")
            self.assertEqual(told(walk), right(MACHINE, RULE, "aa"))
        self.assertEqual(told(walk), before)
        for word in ["ab", "a", ""]:
            walk.undo()
            self.assertEqual(told(walk), right(MACHINE, RULE, word))

    def test_stretches_within_one_another(self):
        source = series("stretches")
        for machine, rule in contests("stretches", 30):
            walk = Walk(machine, rule)
            self.deeper(source, walk, machine, rule, 4)
            self.assertEqual(told(walk), right(machine, rule, ""))
            self.assertRaises(NoUndo, walk.undo)

    def deeper(self, source, walk, machine, rule, deep):
        before = walk.word()
        with walk:
            for _ in range(source.randint(0, 6)):
                choice = source.random()
                if choice < 0.35 and walk.word():
                    walk.undo()
                elif choice < 0.7 or deep == 0:
                    state = 0
                    for letter in walk.word():
                        state = rule[1][state][rule[0].index(letter)]
                    walk.read(step(source, rule, state)[0])
                else:
                    self.deeper(source, walk, machine, rule, deep - 1)
                word = walk.word()
                self.assertEqual([walk.lacks(), walk.total(), len(walk)],
                                 [lacks_after(machine, word), sum_after(machine, word), len(word)])
        self.assertEqual(walk.word(), before)

    def test_errors_go_through(self):
        walk = Walk(MACHINE, RULE)
        walk.read("a")
        before = told(walk)
        with self.assertRaises(Passing):
            with walk:
                walk.read("b")
                with walk:
                    walk.read("a")
                    raise Passing
        self.assertEqual(told(walk), before)
        for error, call in [(NoLetter, lambda: walk.read("c")), (NoUndo, lambda: [walk.undo(), walk.undo()]),
                            (NoNumber, lambda: walk.sure(3))]:
            with self.assertRaises(error):
                with walk:
                    walk.read("a")
                    walk.undo()
                    call()
            self.assertEqual(told(walk), before)
        with walk:
            walk.read("b")
            with self.assertRaises(Passing):
                with walk:
                    walk.undo()
                    walk.undo()
                    raise Passing
            self.assertEqual(walk.word(), "ab")
        self.assertEqual(told(walk), before)

    def test_left_by_return(self):
        walk = Walk(MACHINE, RULE)

        def inside():
            with walk as w:
                w.read("a")
                return w.total()

        self.assertEqual(inside(), (1, 1))
        self.assertEqual(told(walk), right(MACHINE, RULE, ""))
        for letter in "ab":
            with walk:
                walk.read(letter)
                if letter == "a":
                    continue
                break
        self.assertEqual(walk.word(), "")

    def test_one_after_the_other(self):
        walk = Walk(MACHINE, RULE)
        for at in range(5):
            with walk:
                walk.read("b")
            walk.read("a")
            self.assertEqual(walk.word(), "a" * (at + 1))

    def test_two_walks(self):
        one, two = Walk(MACHINE, RULE), Walk(MACHINE, RULE)
        with one, two:
            one.read("a")
            two.read("b")
            self.assertEqual([one.word(), two.word()], ["a", "b"])
        self.assertEqual([one.word(), two.word()], ["", ""])


class NewAnswersTest(unittest.TestCase):
    def test_changes_change_no_later_answer(self):
        walk = Walk(MACHINE, RULE)
        walk.read("a")
        before = walk.lacks()
        changed = walk.lacks()
        changed[0] = 99
        changed.clear()
        self.assertEqual(walk.lacks(), before)
        self.assertIsNot(walk.lacks(), walk.lacks())
        walk.read("b")
        walk.undo()
        self.assertEqual(walk.lacks(), before)
        first = Walk(MACHINE, RULE).lacks()
        first[5] = 5
        self.assertEqual(Walk(MACHINE, RULE).lacks(), {0: 0})

    def test_the_same_again(self):
        walk = Walk(MACHINE, RULE)
        walk.read("b")
        self.assertEqual(told(walk), told(walk))

    def test_span_is_never_widened(self):
        source = series("narrow")
        for machine, rule in contests("narrow", 40):
            walk = Walk(machine, rule)
            spread = max(pays_of(machine)) - min(pays_of(machine))
            ends = [fraction(end[0]) for end in walk.span()]
            for letter in word_of_rule(source, rule, 6):
                walk.read(letter)
                later = [fraction(end[0]) for end in walk.span()]
                self.assertTrue(ends[0] <= later[0] <= later[1] <= ends[1])
                base = machine[0]
                self.assertLessEqual((later[1] - later[0]) * (base - 1) * base ** len(walk), spread * base)
                ends = later

    def test_long_walks(self):
        walk = Walk(wheel(2, 7), free_rule("a"))
        for _ in range(300):
            walk.read("a")
        self.assertEqual([walk.lacks(), walk.total(), walk.sure((0, 1))], [{300 % 7: 0}, (0, 1), "equal"])
        for _ in range(300):
            walk.undo()
        self.assertEqual(told(walk), right(wheel(2, 7), free_rule("a"), ""))


if __name__ == "__main__":
    unittest.main()
