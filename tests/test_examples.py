"""The examples of the document that use the modules that are there."""

import unittest

from laterless.errors import HasRow, NoNumber, TooGreat
from laterless.games import plan_of, shows_game, values_of
from laterless.lacks import lacks_after, lacks_of, led, shows_led, sum_after
from laterless.leads import levels_of, parted, shows_never
from laterless.least import least_of, like_by, same_table, unlike
from laterless.lefts import bars_of, row_with
from laterless.machines import free_rule, is_of
from laterless.numbers import compared, minus, number_of, plus
from laterless.races import Race, trial
from laterless.rows import best_way, shows_way, worth_of, worth_table
from laterless.spans import apart, apart_table, span
from laterless.walks import Walk
from laterless.worths import Worth

MACHINE = (2, "ab", ((((0, 0), (1, 1)), ((1, 0),)), (((2, 1),), ((0, 0),))))


class ExamplesTest(unittest.TestCase):
    def test_numbers(self):
        self.assertEqual(
            [number_of(6, 4), plus((1, 2), (1, 3)), minus((1, 2), (1, 2)), compared((1, 3), (1, 2))],
            [(3, 2), (5, 6), (0, 1), -1])

    def test_no_number(self):
        with self.assertRaises(NoNumber):
            plus((2, 4), (1, 2))

    def test_machines(self):
        rule = ("ab", ((0, 1), (0, None)))
        self.assertEqual(
            [free_rule("ab"), is_of(rule, "abb"), is_of(rule, "ab", ring="ab"), is_of(rule, "b", ring="ba")],
            [("ab", ((0, 0),)), False, True, False])

    def test_rows(self):
        ways = [shows_way(MACHINE, ("", "ab"), ([], [1, 0])), shows_way(MACHINE, ("", "ab"), ([], [0, 0]))]
        self.assertEqual(
            [worth_of(MACHINE, ("", "a")), worth_of(MACHINE, ("", "ab")), ways], [(3, 1), (4, 3), [True, False]])

    def test_best_way(self):
        self.assertIs(shows_way(MACHINE, ("b", "a"), best_way(MACHINE, ("b", "a"))), True)

    def test_worth_table(self):
        self.assertEqual(worth_table(MACHINE, ("b", "a")), [{0: (5, 2)}, {0: (3, 1), 1: (4, 1)}])

    def test_lacks(self):
        lacks = [sorted(lacks_after(MACHINE, word).items()) for word in ["a", "aa", "ab"]]
        self.assertEqual([lacks, sum_after(MACHINE, "aa"), sum_after(MACHINE, "ab"), led(MACHINE)], [
            [[(0, 2), (1, 0)], [(1, 0)], [(0, 0)]], (2, 1), (1, 1),
            (2, "ab", (((1, 1), (1, 0)), ((2, 2), (0, 0)), ((2, 2), (0, 0))))])

    def test_dicts_of_lacks(self):
        dicts = lacks_of(MACHINE)
        self.assertEqual(
            [dicts == [{0: 0}, {0: 2, 1: 0}, {1: 0}], shows_led(MACHINE, (led(MACHINE), dicts)),
             shows_led(MACHINE, (led(MACHINE), dicts[::-1]))], [True, True, False])

    def test_too_many_dicts(self):
        with self.assertRaises(TooGreat):
            led(MACHINE, limit=2)

    def test_parted(self):
        one, other = (2, "ab", (((2, 0), (0, 0)),)), (2, "ab", (((1, 0), (1, 0)),))
        self.assertEqual([parted(one, other, free_rule("ab")), parted(other, one, free_rule("ab"))], ["aa", "bb"])
        self.assertEqual(
            levels_of(one, other, free_rule("ab")), [[(0, 0, ((0, 0),))], [(0, 0, ((0, 2),))], [(0, 0, ())]])

    def test_never_parted(self):
        one, none = (2, "ab", (((2, 0), (-1, 0)),)), (2, "ab", (((0, 0), (0, 0)),))
        rule = ("ab", ((None, 1), (0, None)))
        self.assertEqual(
            [parted(one, none, rule), levels_of(one, none, rule), shows_never(one, none, rule, [(0, 0, ((0, 0),))])],
            [None, [[(0, 0, ((0, 0),))], [(1, 0, ((0, -2),))]], False])

    def test_spans(self):
        one, none = (2, "ab", (((2, 0), (-1, 0)),)), (2, "ab", (((0, 0), (0, 0)),))
        rule, free = ("ab", ((None, 1), (0, None))), free_rule("ab")
        ends = [end[0] for end in span(one, free, "a")]
        self.assertEqual(
            [apart(one, none, free)[0], apart(one, none, rule)[0], apart_table(one, none, rule), ends],
            [(4, 1), (0, 1), [(0, 0, 0, (0, 1)), (1, 0, 0, (2, 1))], [(1, 1), (4, 1)]])

    def test_least(self):
        plain = (2, "ab", (((0, 1), (1, 0)), ((1, 1), (2, 0))))
        self.assertEqual(
            [like_by(plain, 0, 1), least_of(plain), unlike(plain, plain)],
            [(1, 1), ((1, 1), 2, "ab", ((((0, 1), 0), ((1, 2), 0)),)), None])

    def test_unlike(self):
        one, two = (2, "ab", (((0, 0), (1, 0)),)), (2, "ab", (((0, 0), (0, 0)),))
        row = unlike(one, two)
        self.assertIs(worth_of(one, row) == worth_of(two, row), False)

    def test_same_table(self):
        one, other = (2, "a", (((1, 1),), ((0, 1),))), (2, "a", (((0, 1),), ((1, 1),)))
        self.assertEqual([unlike(one, other), same_table(one, other)], [None, [(0, 0, 0), (1, 1, 2)]])

    def test_lefts(self):
        plain, rule = (2, "ab", (((0, 0), (1, 0)),)), ("ab", ((0, None),))
        row = row_with(plain, free_rule("ab"), (2, 3))
        self.assertEqual(
            [worth_of(plain, row), row_with(plain, rule, (1, 4)), bars_of(plain, rule, (1, 4)),
             bars_of(plain, rule, (3, 1))],
            [(2, 3), None, [(0, 0, (1, 1), 1), (0, 0, (1, 2), 2), (0, 0, (1, 4), 3), (0, 0, (2, 1), 0)], []])

    def test_has_row(self):
        with self.assertRaises(HasRow):
            bars_of((2, "ab", (((0, 0), (1, 0)),)), free_rule("ab"), (2, 3))

    def test_games(self):
        arena = (2, (("most", ((1, 1), (0, 0))), ("least", ((0, 0), (3, 1)))))
        self.assertEqual(
            [values_of(arena), plan_of(arena), shows_game(arena, ([(4, 3), (2, 3)], [0, 1]))],
            [[(4, 3), (2, 3)], [0, 0], False])

    def test_operators(self):
        a, b = Worth((2, "ab", (((1, 0), (0, 0)),))), Worth((2, "ab", (((0, 0), (1, 0)),)))
        numbers = [(a | b)(("", "ab")), (a & b)(("", "ab")), (a >> "a")(("", "b")), (2 * a - b)(("", "b"))]
        self.assertEqual(
            [numbers, a + b == Worth((2, "ab", (((1, 0), (1, 0)),))), a.within(a | b), a.below(b)],
            [[(4, 3), (2, 3), (2, 1), (-2, 1)], True, True, False])

    def test_properties(self):
        a = Worth((2, "ab", (((0, 1), (1, 0)), ((1, 1), (2, 0)))))
        self.assertEqual(
            [a.states, a.base, a.letters, a.most(free_rule("ab"))[0], a.least(free_rule("ab"))[0], a == a + 0, a == 2],
            [1, 2, "ab", (2, 1), (1, 1), True, False])

    def test_pays_that_are_too_great(self):
        with self.assertRaises(TooGreat):
            2 * Worth((2, "a", (((10 ** 30, 0),),)))

    def test_numbers_of_worths(self):
        a = Worth((2, "ab", (((0, 0), (1, 0)),)))
        self.assertEqual([(2, 3) in a, (5, 2) in a, 7 in a, a.plain(), (a + 1).plain()], [
            True, False, False, (2, "ab", (((0, 0), (1, 0)),)), (2, "ab", (((1, 1), (2, 1)), ((0, 1), (1, 1))))])

    def test_walks(self):
        walk = Walk(MACHINE, free_rule("ab"))
        walk.read("a")
        told = [walk.total(), [end[0] for end in walk.span()], walk.sure((1, 1)), walk.sure((2, 1))]
        self.assertEqual([told, trial(walk, ["b", ["b", "-"]]), walk.word(), len(walk)], [
            [(1, 1), [(4, 3), (3, 1)], "above", "open"], [(1, 1), [(5, 4), (1, 1)]], "a", 1])

    def test_races(self):
        one, other = (2, "ab", (((2, 0), (0, 0)),)), (2, "ab", (((1, 0), (1, 0)),))
        race = Race(one, other, free_rule("ab"))
        self.assertEqual(
            [trial(race, ["a", ["b", "a"], "a", "-"]), trial(race, ["b"]), race.state(), race.standings()],
            [["open", ["open", "won"], "won", "open"], ["never"], "open", [(0, 0, ((0, 0),))]])


if __name__ == "__main__":
    unittest.main()
