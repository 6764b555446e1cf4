"""Ways of the greatest worth: the one that is told, and which others are shown."""

import copy
import itertools
import unittest
from fractions import Fraction

from laterless.rows import best_way, shows_way, worth_of
from makers import MACHINE, ROUND, TIES, machine_of, row_of, series, spellings, word_of
from parts import Agreeing, Broken, of_other_kinds, other_things
from reckoning import choice_of, letter_at, way_worth

ROW = ("b", "ab")


def machines(name, many):
    source = series(name)
    return [machine_of(source, 2 + at % 8, "abc"[:1 + at // 8 % 3]) for at in range(many)]


def all_numbers(many):
    """All lists of so many numbers of pairs, right or not."""
    return [list(numbers) for numbers in itertools.product(range(3), repeat=many)]


class BestWayTest(unittest.TestCase):
    def check(self, machine, row):
        told = best_way(machine, row)
        self.assertEqual([type(told), len(told)] + [type(part) for part in told], [tuple, 2, list, list])
        first, again = told
        self.assertTrue(all(type(at) is int for at in first + again))
        self.assertTrue(len(first) >= len(row[0]) and len(again) > 0 and len(first) + len(again) <= 8000)
        self.assertEqual([(len(first) - len(row[0])) % len(row[1]), len(again) % len(row[1])], [0, 0])
        self.assertIs(shows_way(machine, row, told), True)
        return told

    def test_small(self):
        self.assertEqual(best_way((2, "a", ((((0, 0), (1, 0)),),)), ("", "a")), ([], [1]))
        self.assertEqual(best_way((2, "a", ((((2, 0), (1, 0)),),)), ("aa", "aa")), ([0, 0], [0, 0]))
        self.assertEqual(best_way(MACHINE, ("b", "a")), ([0, 1], [0]))

    def test_has_the_worth(self):
        source = series("best")
        for machine in machines("best", 72):
            for _ in range(3):
                row = row_of(source, machine[1])
                for spelt in [row] + spellings(row):
                    first, again = self.check(machine, spelt)
                    self.assertEqual(way_worth(machine, spelt, first, again), Fraction(*worth_of(machine, row)))

    def test_ties(self):
        for row in [("", "a"), ("", "b"), ("ab", "ba"), ("abb", "aab")]:
            self.check(TIES, row)

    def test_four_turns(self):
        for row in [("", "a"), ("b", "aaa"), ("abab", "babaa")]:
            self.assertEqual(len(self.check(ROUND, row)[1]), 4 * len(row[1]))

    def test_long_rows(self):
        source = series("long ways")
        for base in range(2, 10):
            machine = machine_of(source, base, "abc", 4, 20)
            row = (word_of(source, "abc", 1500), word_of(source, "abc", 1500))
            self.check(machine, row)

    def test_long_rounds(self):
        first, again = self.check(ROUND, ("b" * 1500, "a" + "b" * 1499))
        self.assertEqual([len(first), len(again)], [1500, 6000])

    def test_long_before_the_round(self):
        # One turn after the other, each in a state of its own before the last one is kept.
        machine = (2, "ab", tuple([(((0, min(at + 1, 3)),), ((0, at),)) for at in range(4)]))
        first, again = self.check(machine, ("b" * 1500, "a" + "b" * 1499))
        self.assertEqual([len(first), len(again)], [6000, 1500])


class ShowsWayTest(unittest.TestCase):
    def test_all_short_ways(self):
        source = series("short")
        shown = 0
        for machine in machines("short", 24) + [TIES, MACHINE]:
            row = row_of(source, machine[1], 2)
            worth = Fraction(*worth_of(machine, row))
            for many, round_trip in itertools.product(range(4), repeat=2):
                for first in all_numbers(many):
                    for again in all_numbers(round_trip):
                        right = way_worth(machine, row, first, again) == worth
                        shown += right
                        self.assertIs(shows_way(machine, row, (first, again)), right)
        self.assertGreater(shown, 100)

    def test_other_ways_of_the_same_worth(self):
        row = ("a", "ab")
        for first in ([0], [1], [0, 0, 0], [1, 1, 0], [0, 0, 1]):
            for again in ([0, 0], [1, 1], [0, 1], [1, 0], [0, 0, 1, 0], [1, 0, 1, 1]):
                states = [0]
                known = True
                for place, at in enumerate(first + again):
                    choice = choice_of(TIES, states[-1], letter_at(row, place))
                    known = known and at < len(choice)
                    states.append(choice[min(at, len(choice) - 1)][1])
                right = known and states[len(first)] == states[-1]
                self.assertIs(shows_way(TIES, row, (first, again)), right)
        self.assertIs(shows_way(TIES, row, ([0], [0, 1])), True)
        self.assertIs(shows_way(TIES, row, ([1], [1, 0])), True)
        self.assertIs(shows_way(TIES, row, ([0], [0, 0])), False)

    def test_more_rounds(self):
        source = series("rounds")
        for machine in machines("rounds", 24):
            row = row_of(source, machine[1], 3)
            first, again = best_way(machine, row)
            for more in range(1, 4):
                self.assertIs(shows_way(machine, row, (first, again * more)), True)
                self.assertIs(shows_way(machine, row, (first + again * more, again)), True)
                self.assertIs(shows_way(machine, row, (first + again * more, again * 2)), True)

    def test_turns_in_another_place(self):
        # The ring is read from its beginning on in first, from its middle on in again.
        machine = (2, "ab", ((((1, 0), (0, 0)), ((0, 0), (2, 0))),))
        self.assertIs(shows_way(machine, ("", "ab"), ([], [0, 1])), True)
        self.assertIs(shows_way(machine, ("", "ab"), ([0], [1, 0])), True)
        self.assertIs(shows_way(machine, ("", "ab"), ([0, 1, 0], [1, 0])), True)
        self.assertIs(shows_way(machine, ("", "ab"), ([0], [0, 1])), False)

    def test_the_ring_as_it_is_spelt(self):
        machine = (2, "ab", ((((1, 0), (0, 0)), ((0, 0), (2, 0))),))
        self.assertIs(shows_way(machine, ("", "abab"), ([], [0, 1])), False)
        self.assertIs(shows_way(machine, ("", "abab"), ([], [0, 1, 0, 1])), True)
        self.assertIs(shows_way(machine, ("ab", "ab"), ([], [0, 1])), False)
        self.assertIs(shows_way(machine, ("ab", "ab"), ([0], [1, 0])), False)
        self.assertIs(shows_way(machine, ("ab", "ab"), ([0, 1], [0, 1])), True)
        self.assertIs(shows_way((2, "a", ((((1, 0),),),)), ("", "aa"), ([], [0])), False)
        self.assertIs(shows_way((2, "a", ((((1, 0),),),)), ("", "aa"), ([], [0] * 3)), False)
        self.assertIs(shows_way((2, "a", ((((1, 0),),),)), ("", "aa"), ([0], [0] * 4)), True)

    def test_rounds_that_do_not_come_back(self):
        machine = (2, "a", ((((1, 1),),), (((1, 0),),)))
        self.assertEqual(worth_of(machine, ("", "a")), (2, 1))
        self.assertIs(shows_way(machine, ("", "a"), ([], [0])), False)
        self.assertIs(shows_way(machine, ("", "a"), ([], [0, 0])), True)
        self.assertIs(shows_way(machine, ("", "a"), ([0], [0])), False)
        self.assertIs(shows_way(machine, ("", "a"), ([0], [0, 0])), True)

    def test_an_empty_again(self):
        for first in [[], [0], [0, 1], [0, 1, 0]]:
            self.assertIs(shows_way(MACHINE, ("b", "a"), (first, [])), False)
            self.assertIs(shows_way((2, "a", ((((0, 0),),),)), ("", "a"), (first, [])), False)

    def test_numbers_changed(self):
        source = series("changed")
        for machine in machines("changed", 24):
            row = row_of(source, machine[1], 3)
            first, again = best_way(machine, row)
            worth = Fraction(*worth_of(machine, row))
            for place in range(len(first) + len(again)):
                for wrong in range(-3, 4):
                    numbers = first + again
                    numbers[place] = wrong
                    thing = (numbers[:len(first)], numbers[len(first):])
                    self.assertIs(shows_way(machine, row, thing), way_worth(machine, row, *thing) == worth)
                numbers = first + again
                for thing in [numbers[:place] + numbers[place + 1:], numbers[:place] + [0] + numbers[place:]]:
                    for cut in {len(first), max(0, len(first) - 1), len(first) + 1}:
                        parts = (thing[:cut], thing[cut:])
                        self.assertIs(shows_way(machine, row, parts), way_worth(machine, row, *parts) == worth)

    def test_numbers_that_no_choice_has(self):
        machine = (2, "a", ((((1, 0), (1, 1)),), (((1, 1), (1, 0), (0, 0)),)))
        for number in [-1, -2, 2, 3, 10 ** 60, -(10 ** 60)]:
            self.assertIs(shows_way(machine, ("", "a"), ([], [number])), False)
            self.assertIs(shows_way(machine, ("", "a"), ([number], [0])), False)
        self.assertIs(shows_way(machine, ("", "a"), ([1], [2])), False)
        self.assertIs(shows_way(machine, ("", "a"), ([1], [-3])), False)
        self.assertIs(shows_way(machine, ("", "a"), ([1], [0])), True)

    def test_most_numbers(self):
        machine = (2, "a", ((((1, 0), (1, 1), (0, 0)),), (((1, 1),),)))
        for many in [1, 2, 1500, 4000, 7999]:
            self.assertIs(shows_way(machine, ("", "a"), ([0] * (8000 - many), [0] * many)), True)
            self.assertIs(shows_way(machine, ("", "a"), ([0] * (8001 - many), [0] * many)), False)
            self.assertIs(shows_way(machine, ("", "a"), ([0] * (8000 - many), [0] * (many - 1) + [2])), False)
        self.assertIs(shows_way(machine, ("", "a"), ([], [0] * 8000)), True)
        self.assertIs(shows_way(machine, ("", "a"), ([], [0] * 8001)), False)
        self.assertIs(shows_way(machine, ("a" * 1500, "a" * 1500), ([0] * 2000, [0] * 6000)), True)
        self.assertIs(shows_way(machine, ("a" * 1500, "a" * 1500), ([0] * 2001, [0] * 6000)), False)
        self.assertIs(shows_way(machine, ("a" * 1500, "a" * 1500), ([0] * 1499, [0] * 6000)), False)

    def test_a_late_loss(self):
        machine = (2, "a", ((((1, 0), (0, 0)),),))
        self.assertIs(shows_way(machine, ("", "a"), ([0] * 7000, [0] * 1000)), True)
        for place in [0, 1, 3500, 6999]:
            first = [0] * 7000
            first[place] = 1
            self.assertIs(shows_way(machine, ("", "a"), (first, [0] * 1000)), False)
        self.assertIs(shows_way(machine, ("", "a"), ([0] * 7000, [0] * 999 + [1])), False)

    def test_other_kinds(self):
        first, again = [0, 1], [0]
        self.assertIs(shows_way(MACHINE, ("b", "a"), (first, again)), True)
        for thing in [
            [first, again], (tuple(first), again), (first, tuple(again)), (first,), (first, again, []),
            (first, again, again), ((first, again),), (first, {0: 0}), ({0: 0, 1: 1}, again), (first, range(1)),
            (range(2), again), ("01", again), (first, "0"), (b"\x00\x01", again), (iter(first), again), (None, again),
            (first, None), {0: first, 1: again}, first + again, (first, [again]), ([first], again), (again, first),
        ]:
            self.assertIs(shows_way(MACHINE, ("b", "a"), thing), False)
        for place in range(2):
            for wrong in of_other_kinds(first[place]) + other_things():
                # Some of them are integers, and right ones.
                if type(wrong) is not int:
                    self.assertIs(shows_way(MACHINE, ("b", "a"), (first[:place] + [wrong] + first[place + 1:], again)),
                                  False)
        for wrong in of_other_kinds(0) + other_things():
            if type(wrong) is not int:
                self.assertIs(shows_way(MACHINE, ("b", "a"), (first, [wrong])), False)
            if type(wrong) is not list:
                self.assertIs(shows_way(MACHINE, ("b", "a"), (first, wrong)), False)
                self.assertIs(shows_way(MACHINE, ("b", "a"), (wrong, again)), False)

    def test_booleans(self):
        machine = (2, "a", ((((1, 0), (1, 1)),), (((1, 1), (1, 0)),)))
        self.assertIs(shows_way(machine, ("", "a"), ([], [0])), True)
        self.assertIs(shows_way(machine, ("", "a"), ([], [False])), False)
        self.assertIs(shows_way(machine, ("", "a"), ([1], [0])), True)
        self.assertIs(shows_way(machine, ("", "a"), ([True], [0])), False)

    def test_other_things(self):
        for thing in other_things() + [(Agreeing(), [0]), ([0, 1], Broken()), ([0, Broken()], [0])]:
            self.assertIs(shows_way(MACHINE, ("b", "a"), thing), False)

    def test_things_are_as_before(self):
        for thing in [([0, 1], [0]), ([0, 1], [0, 0]), ([], []), [[0], [0]], ([0, True], [[0]])]:
            before = copy.deepcopy(thing)
            shows_way(MACHINE, ("b", "a"), thing)
            self.assertEqual(repr(thing), repr(before))


if __name__ == "__main__":
    unittest.main()
