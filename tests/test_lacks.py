"""Lacks and greatest sums after words."""

import unittest
from fractions import Fraction

from laterless.lacks import lacks_after, led, sum_after
from makers import MACHINE, machine_of, plain_of, plains_and_others, series, wheel, word_of
from reckoning import lacks, lacks_on, number, sums, ways, words

# From state 1 no way ever comes up again, though its last steps are the best ones.
HOPELESS = (2, "ab", ((((2, 0), (-2, 1)), ((0, 0),)), (((2, 1),), ((1, 1),))))


class LacksTest(unittest.TestCase):
    def test_the_empty_word(self):
        for machine in plains_and_others("empty", 48):
            self.assertEqual(lacks_after(machine, ""), {0: 0})
            self.assertEqual(sum_after(machine, ""), (0, 1))

    def test_small(self):
        self.assertEqual([lacks_after(MACHINE, word) for word in ["a", "aa", "ab"]], [{0: 2, 1: 0}, {1: 0}, {0: 0}])
        self.assertEqual([sum_after(MACHINE, word) for word in ["a", "aa", "ab", "aaa"]],
                         [(1, 1), (2, 1), (1, 1), (5, 2)])

    def test_where_lacks_become_hopeless(self):
        # The spread is 4. The lack is base * lost, and hopeless if lost * (base - 1) is 4 or more.
        for base, lost, later in [
            (2, 3, {0: 0, 1: 6}), (2, 4, {0: 0}), (3, 1, {0: 0, 1: 3}), (3, 2, {0: 0}), (4, 1, {0: 0, 1: 4}),
            (4, 2, {0: 0}), (5, 1, {0: 0}), (9, 1, {0: 0}), (9, 0, {0: 0, 1: 0}),
        ]:
            machine = (base, "ab", ((((4, 0), (4 - lost, 1)), ((0, 0),)), (((0, 1),), ((0, 0),))))
            self.assertEqual(lacks_after(machine, "a"), later)
        self.assertEqual(lacks_after((2, "a", ((((2, 0), (-2, 1)),), (((2, 1),),))), "a"), {0: 0})
        self.assertEqual(lacks_after((2, "a", ((((2, 0), (-1, 1)),), (((-2, 1),),))), "a"), {0: 0, 1: 6})
        # In such a machine no lack is above 0, and 0 is not hopeless.
        self.assertEqual(lacks_after((2, "a", ((((3, 0), (3, 1)),), (((3, 1),),))), "aaa"), {0: 0, 1: 0})

    def test_against_the_definition(self):
        source = series("lacks")
        for machine in plains_and_others("lacks", 72):
            for many in [0, 1, 2, 3, 4, 5, 8, 20]:
                word = word_of(source, machine[1], many)
                found = lacks_after(machine, word)
                self.assertEqual(found, lacks(machine, word))
                self.assertEqual({type(part) for part in [*found, *found.values()]}, {int})
                self.assertEqual(sum_after(machine, word), number(max(sums(machine, word).values())))

    def test_letter_by_letter(self):
        source = series("letter by letter")
        for machine in plains_and_others("letter by letter", 48):
            word = word_of(source, machine[1], 12)
            lacks_now = {0: 0}
            for many, letter in enumerate(word):
                lacks_now = lacks_on(machine, lacks_now, letter)[1]
                self.assertEqual(lacks_after(machine, word[:many + 1]), lacks_now)

    def test_all_ways(self):
        source = series("all ways")
        for machine in plains_and_others("all ways", 48):
            for word in [word_of(source, machine[1], many) for many in range(6)]:
                best = max(way[-1][1] for way in ways(machine, word))
                self.assertEqual(sum_after(machine, word), number(best))

    def test_sums_along_states_that_were_hopeless(self):
        for word in words("ab", 6):
            best = max(way[-1][1] for way in ways(HOPELESS, word))
            self.assertEqual(sum_after(HOPELESS, word), number(best))
        # Where all pays are the same, each way has the greatest sum.
        self.assertEqual(sum_after((2, "a", ((((1, 1),),), (((1, 0), (1, 1)),))), "aaaa"), (15, 8))

    def test_long_words(self):
        source = series("long words")
        for machine in plains_and_others("long words", 24):
            word = word_of(source, machine[1], 300)
            self.assertEqual(lacks_after(machine, word), lacks(machine, word))
            self.assertEqual(sum_after(machine, word), number(max(sums(machine, word).values())))
        machine = (2, "ab", (((0, 0), (1, 0)),))
        self.assertEqual(sum_after(machine, "a" * 299 + "b"), (1, 2 ** 299))
        self.assertEqual(sum_after(machine, "b" * 300), (2 ** 300 - 1, 2 ** 299))

    def test_plain(self):
        source = series("plain lacks")
        for _ in range(30):
            plain = plain_of(source)
            word = word_of(source, plain[1], source.randint(0, 300))
            state, total = 0, Fraction(0)
            for place, letter in enumerate(word):
                pay, state = plain[2][state][plain[1].index(letter)]
                total += Fraction(pay, plain[0] ** place)
            self.assertEqual(lacks_after(plain, word), {state: 0})
            self.assertEqual(sum_after(plain, word), number(total))
        self.assertEqual(lacks_after(wheel(2, 298), "a" * 297), {297: 0})

    def test_sum_along_what_is_led(self):
        source = series("led sums")
        for machine in plains_and_others("led sums", 24):
            if len(machine[2]) < 4 or machine[0] > 3:
                plain = led(machine)
                for many in [0, 1, 2, 7, 300]:
                    word = word_of(source, machine[1], many)
                    self.assertEqual(sum_after(machine, word), sum_after(plain, word))

    def test_lacks_are_as_far_from_the_sum(self):
        source = series("far")
        for _ in range(30):
            machine = machine_of(source)
            word = word_of(source, machine[1], 9)
            ends = sums(machine, word)
            for state, lack in lacks_after(machine, word).items():
                best = Fraction(*sum_after(machine, word))
                self.assertEqual(ends[state], best - Fraction(lack, machine[0] ** 9))


if __name__ == "__main__":
    unittest.main()
