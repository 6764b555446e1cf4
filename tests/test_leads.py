"""Won words and levels: pairs of machines that are parted and such that are not."""

import itertools
import unittest
from fractions import Fraction

from laterless.errors import TooGreat
from laterless.lacks import led
from laterless.leads import levels_of, parted, shows_never
from laterless.machines import free_rule, is_of
from laterless.rows import worth_of
from makers import MACHINE, TIES, machine_of, plain_of, rows_that_begin, rule_of, series, wheel
from reckoning import levels, standings, words

FIRST = (0, 0, ((0, 0),))
NONE = (2, "ab", (((0, 0), (0, 0)),))


def contests(name, many, most=None):
    """Pairs of machines with rules; each third machine is a plain one."""
    source = series(name)
    found = []
    for at in range(many):
        base, letters = source.randint(2, 9) if at % 2 else 2, "abc"[:1 + at % 3]
        pair = [
            plain_of(source, base, letters, most=most or 5) if source.random() < 0.33 else
            machine_of(source, base, letters, most=most or source.choice([1, 2, 5]))
            for _ in range(2)
        ]
        found.append((pair[0], pair[1], rule_of(source, letters) if at % 4 else free_rule(letters)))
    return found


def told_contests(name, many, most=None):
    """Those of the contests that have at most 2000 standings, each with its levels."""
    found = []
    for contest in contests(name, many, most):
        try:
            found.append((contest, levels_of(*contest)))
        except TooGreat:
            continue
    return found


def is_won(told):
    return any(standing[2] == () for standing in told[-1])


class PartedTest(unittest.TestCase):
    def test_small(self):
        one, other = (2, "ab", (((2, 0), (0, 0)),)), (2, "ab", (((1, 0), (1, 0)),))
        self.assertEqual(parted(one, other, free_rule("ab")), "aa")
        self.assertEqual(parted(other, one, free_rule("ab")), "bb")
        self.assertEqual(levels_of(one, other, free_rule("ab")), [[FIRST], [(0, 0, ((0, 2),))], [(0, 0, ())]])

    def test_rules_that_bar_the_won_words(self):
        one, other = (2, "ab", (((2, 0), (0, 0)),)), (2, "ab", (((1, 0), (1, 0)),))
        self.assertIs(parted(one, other, ("ab", ((None, 0),))), None)
        self.assertIs(parted(one, other, ("ab", ((None, 1), (0, None)))), None)
        self.assertEqual(parted(one, other, ("ab", ((0, None),))), "aa")
        self.assertEqual(parted(one, other, ("ab", ((1, None), (None, 2), (2, 2)))), "aba")
        one = (2, "ab", (((2, 0), (-1, 0)),))
        self.assertIs(parted(one, NONE, ("ab", ((None, 1), (0, None)))), None)
        self.assertEqual(parted(one, NONE, ("ab", ((0, 1), (0, None)))), "a")

    def test_the_same_machine_twice(self):
        source = series("twice")
        for machine in [MACHINE, TIES] + [machine_of(source, most=2) for _ in range(20)]:
            self.assertIs(parted(machine, machine, free_rule(machine[1])), None)
        for _ in range(10):
            plain = plain_of(source)
            self.assertIs(parted(plain, plain, free_rule(plain[1])), None)

    def test_a_machine_and_what_is_led(self):
        for machine in [MACHINE, TIES]:
            self.assertIs(parted(machine, led(machine), free_rule(machine[1])), None)
            self.assertIs(parted(led(machine), machine, free_rule(machine[1])), None)

    def test_never_above_by_the_pays_alone(self):
        # One pays nowhere more than other, so the first lead is vain after each letter.
        self.assertEqual(levels_of(NONE, NONE, free_rule("ab")), [[FIRST]])
        self.assertEqual(levels_of(NONE, (2, "ab", (((1, 0), (0, 0)),)), free_rule("ab")), [[FIRST]])
        self.assertIs(parted(NONE, NONE, free_rule("ab")), None)

    def test_above_by_the_pays_alone(self):
        # Other pays nowhere more than one, so each lead above 0 is safe.
        one = (2, "ab", (((1, 0), (0, 0)),))
        self.assertEqual(levels_of(one, NONE, free_rule("ab")), [[FIRST], [(0, 0, ())]])
        self.assertEqual(parted(one, NONE, free_rule("ab")), "a")
        self.assertEqual(parted(one, NONE, ("ab", ((None, 1), (None, 2), (2, 0)))), "bba")

    def test_where_leads_become_safe_and_vain(self):
        # Over and below are 4: after one letter a lead of base * pay is safe above 4 * base / (base - 1).
        for base, pay, after in [
            (2, 4, [((0, 8),)]), (2, 3, [((0, 6),)]), (2, -3, [((0, -6),)]), (2, -4, []), (3, 2, [((0, 6),)]),
            (3, 3, [()]), (3, 1, [((0, 3),)]), (3, -1, [((0, -3),)]), (3, -2, []), (5, 1, [((0, 5),)]), (5, 2, [()]),
            (5, -1, []), (9, 0, [((0, 0),)]), (9, 1, [()]), (9, -1, []), (9, 4, [()]),
        ]:
            one = (base, "a", (((pay, 1),), ((0, 1),), ((4, 2),), ((-4, 3),)))
            told = levels_of(one, (base, "a", (((0, 0),),)), free_rule("a"))
            self.assertEqual([leads for _, _, leads in (told[1] if len(told) > 1 else [])], after)

    def test_over_and_below_are_not_the_same(self):
        one, other = (2, "a", (((3, 1),), ((0, 1),))), (2, "a", (((0, 0),), ((2, 0),)))
        # Over is 2: a lead of 6 is safe, one of 4 is not.
        self.assertEqual(levels_of(one, other, free_rule("a")), [[FIRST], [(0, 1, ())]])
        one = (2, "a", (((2, 1),), ((0, 1),)))
        self.assertEqual(levels_of(one, other, free_rule("a"))[1], [(0, 1, ((0, 4),))])
        # Below is 1: a lead of -2 is vain, and so no lead but those above -2 goes on.
        one, other = (2, "a", (((0, 1),), ((1, 1),))), (2, "a", (((1, 0),), ((0, 0),)))
        self.assertEqual(levels_of(one, other, free_rule("a")), [[FIRST]])
        other = (2, "a", (((1, 0),), ((-1, 0),)))
        self.assertEqual(levels_of(one, other, free_rule("a")), [[FIRST], [(0, 1, ((0, -2),))]])

    def test_leads_over_several_states(self):
        one = (2, "a", (((2, 0),),))
        other = (2, "a", ((((0, 0), (1, 1)),), (((5, 1), (0, 0)),)))
        told = levels_of(one, other, free_rule("a"))
        self.assertEqual(told[:2], [[FIRST], [(0, 0, ((0, 4), (1, 2)))]])
        self.assertEqual(told, levels(one, other, free_rule("a"), 8))

    def test_some_leads_that_are_safe(self):
        one, other = (2, "a", (((2, 0),),)), (2, "a", ((((-9, 0), (2, 1)),), (((2, 1),),)))
        self.assertEqual(levels_of(one, other, free_rule("a")), [[FIRST], [(0, 0, ((1, 0),))]])

    def test_against_the_ways(self):
        parted_ones = 0
        for (one, other, rule), told in told_contests("ways", 240):
            many = 4 if len(one[1]) == 3 else 5
            right = levels(one, other, rule, many)
            self.assertEqual(told[:len(right)], right)
            # All other words are longer.
            self.assertTrue(len(told) == len(right) or len(right) == many + 1)
            word = parted(one, other, rule)
            if is_won(told):
                parted_ones += 1
                self.assertEqual(len(word), len(told) - 1)
                if len(word) <= many:
                    won = [text for text in words(one[1], len(word))
                           if any(standing[2] == () for standing in standings(one, other, rule, text))]
                    self.assertEqual(won[0], word)
            else:
                self.assertIs(word, None)
        self.assertGreater(parted_ones, 60)

    def test_levels(self):
        for (one, other, rule), told in told_contests("forms", 120):
            self.assertEqual([type(told)] + [type(level) for level in told], [list] + [list] * len(told))
            self.assertEqual(told[0], [FIRST])
            together = [standing for level in told for standing in level]
            self.assertEqual(len(set(together)), len(together))
            for level in told:
                self.assertTrue(level)
                self.assertEqual(level, sorted(level))
            self.assertFalse(any(standing[2] == () for level in told[:-1] for standing in level))

    def test_one_of_two_things(self):
        source = series("two things")
        found = {True: 0, False: 0}
        for (one, other, rule), told in told_contests("two things", 240):
            word = parted(one, other, rule)
            found[word is None] += 1
            if word is None:
                self.assertIs(shows_never(one, other, rule, list(itertools.chain(*told))), True)
            else:
                self.assertIs(is_of(rule, word), True)
                self.assertIs(shows_never(one, other, rule, list(itertools.chain(*told))), False)
            for row in rows_that_begin(source, rule, word or "", 12):
                self.assertIs(is_of(rule, row[0], ring=row[1]), True)
                above = Fraction(*worth_of(one, row)) > Fraction(*worth_of(other, row))
                self.assertIs(above, word is not None)
        self.assertGreater(min(found.values()), 50)

    def test_no_word_ahead_of_the_first_won_one(self):
        for (one, other, rule), told in told_contests("ahead", 60):
            word = parted(one, other, rule)
            if word is not None and len(word) <= 4:
                for text in words(one[1], len(word)):
                    if len(text) < len(word) or text < word:
                        self.assertFalse(any(part[2] == () for part in standings(one, other, rule, text)))

    def test_the_first_one_of_several_won_words(self):
        # All letters pay the same, so all words are won; c leads by another way than a and b.
        one = (2, "abc", (((1, 2), (1, 1), (1, 0)), ((1, 0), (1, 2), (1, 1)), ((1, 1), (1, 0), (1, 2))))
        other = (2, "abc", (((0, 0), (0, 0), (0, 0)), ((2, 0), (0, 0), (0, 0))))
        self.assertEqual(parted(one, other, free_rule("abc")), "aa")
        self.assertEqual(parted(one, other, ("abc", ((1, 1, 1), (None, 0, 0)))), "ab")
        self.assertEqual(parted(one, other, ("abc", ((None, 2, 1), (0, 0, 0), (None, None, 0)))), "bc")
        self.assertEqual(parted(one, other, ("abc", ((None, None, 1), (None, 0, None)))), "cb")

    def test_two_words_to_one_standing(self):
        # The standings after a are in the other order than the letters that lead to them.
        one = (2, "ab", (((0, 2), (0, 1)), ((0, 3), (0, 3)), ((0, 3), (0, 3)), ((1, 3), (1, 3))))
        other = (2, "ab", (((0, 0), (0, 0)),))
        self.assertEqual(levels_of(one, other, free_rule("ab"))[1], [(0, 1, ((0, 0),)), (0, 2, ((0, 0),))])
        self.assertEqual(parted(one, other, free_rule("ab")), "aaa")
        self.assertEqual(parted(one, other, ("ab", ((1, 1), (2, 2), (None, 2)))), "aab")

    def test_long_won_words(self):
        one = (2, "a", tuple([((1 if at == 299 else 0, (at + 1) % 300),) for at in range(300)]))
        other = (2, "a", (((0, 0),),))
        self.assertEqual(parted(one, other, free_rule("a")), "a" * 300)
        self.assertEqual(len(levels_of(one, other, free_rule("a"))), 301)

    def test_great_pays(self):
        one, other = (2, "a", (((10 ** 30, 0),),)), (2, "a", (((10 ** 30 - 1, 0),), ((10 ** 30, 0),)))
        self.assertEqual(parted(one, other, free_rule("a")), "a")
        self.assertIs(parted(other, one, free_rule("a")), None)

    def test_rules_with_one_row(self):
        source = series("barred")
        for _ in range(20):
            one, other = machine_of(source, 2, "ab", 2, 2), machine_of(source, 2, "ab", 2, 2)
            # Only the row of a is of the rule.
            rule = ("ab", ((0, None),))
            above = Fraction(*worth_of(one, ("", "a"))) > Fraction(*worth_of(other, ("", "a")))
            self.assertIs(parted(one, other, rule) is not None, above)


class LimitTest(unittest.TestCase):
    def test_as_many_as_the_limit(self):
        for contest, told in told_contests("limits", 120):
            many = sum([len(level) for level in told])
            for limit in {many, min(2000, many + 1), 2000}:
                self.assertEqual(levels_of(*contest, limit=limit), told)
                self.assertEqual(parted(*contest, limit=limit), parted(*contest))
            for limit in {1, many - 1, many // 2, many - len(told[-1])} - {0, many}:
                self.assertRaises(TooGreat, levels_of, *contest, limit=limit)
                self.assertRaises(TooGreat, parted, *contest, limit=limit)

    def test_the_whole_last_level_counts(self):
        one = (2, "abc", (((2, 0), (2, 1), (0, 1)), ((0, 1), (0, 1), (0, 1))))
        other = (2, "abc", (((0, 0), (0, 0), (0, 0)), ((1, 1), (1, 1), (1, 1))))
        self.assertEqual(levels_of(one, other, free_rule("abc"), limit=4),
                         [[FIRST], [(0, 0, ()), (0, 1, ()), (0, 1, ((0, 0),))]])
        self.assertEqual(parted(one, other, free_rule("abc"), limit=4), "a")
        for limit in [1, 2, 3]:
            self.assertRaises(TooGreat, parted, one, other, free_rule("abc"), limit=limit)
            self.assertRaises(TooGreat, levels_of, one, other, free_rule("abc"), limit=limit)

    def test_default(self):
        # Two wheels are where they were after as many steps as the least common multiple of their numbers of states.
        one, other = wheel(2, 125), wheel(2, 16)
        told = levels_of(one, other, free_rule("a"))
        self.assertEqual([len(level) for level in told], [1] * 2000)
        self.assertEqual(told[1999], [(0, 124, ((15, 0),))])
        self.assertIs(parted(one, other, free_rule("a")), None)
        self.assertEqual(levels_of(one, other, free_rule("a"), limit=2000), told)
        self.assertRaises(TooGreat, levels_of, one, other, free_rule("a"), limit=1999)
        for function in [parted, levels_of]:
            self.assertRaises(TooGreat, function, wheel(2, 69), wheel(2, 29), free_rule("a"))
            self.assertRaises(TooGreat, function, wheel(2, 69), wheel(2, 29), free_rule("a"), limit=2000)

    def test_one(self):
        self.assertEqual(levels_of(NONE, NONE, free_rule("ab"), limit=1), [[FIRST]])
        self.assertIs(parted(NONE, NONE, free_rule("ab"), limit=1), None)


if __name__ == "__main__":
    unittest.main()
