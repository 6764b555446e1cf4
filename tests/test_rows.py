"""The greatest worth of all ways along a row, and its table."""

import copy
import unittest
from fractions import Fraction

from laterless.numbers import number_of, plus
from laterless.rows import shows_worth, worth_of, worth_table
from makers import MACHINE, ROUND, TIES, machine_of, plains_and_others, row_of, series, spellings, word_of
from parts import Agreeing, Broken, other_things
from reckoning import begun_in, choice_of, letter_at, number, rest_of, worth_bounds


def followed(machine, row, state):
    """What is paid from the state on, by the worth of a machine that begins there."""
    return Fraction(*worth_of(begun_in(machine, state), row))


def reading(machine, row, turns=5):
    """For each place of the row, the states that read its letter in the first turns of the ring."""
    many = len(row[0]) + len(row[1])
    found = [set() for _ in range(many)]
    current = {0}
    for place in range(len(row[0]) + turns * len(row[1])):
        at = place if place < len(row[0]) else len(row[0]) + (place - len(row[0])) % len(row[1])
        found[at] |= current
        current = {to for state in current for _, to in choice_of(machine, state, letter_at(row, place))}
    return found


class WorthTest(unittest.TestCase):
    def test_one_state(self):
        self.assertEqual(worth_of((2, "a", ((((1, 0),),),)), ("", "a")), (2, 1))
        self.assertEqual(worth_of((3, "a", ((((1, 0),),),)), ("", "a")), (3, 2))
        self.assertEqual(worth_of((9, "a", ((((-20, 0),),),)), ("aaa", "aa")), (-45, 2))
        self.assertEqual(worth_of((2, "a", ((((0, 0),),),)), ("", "a")), (0, 1))
        self.assertEqual(worth_of((2, "ab", (((1, 0), (0, 0)),)), ("", "ab")), (4, 3))
        self.assertEqual(worth_of((2, "ab", (((1, 0), (0, 0)),)), ("b", "ab")), (2, 3))
        self.assertEqual(worth_of((2, "ab", (((1, 0), (0, 0)),)), ("a", "b")), (1, 1))

    def test_the_best_way_counts(self):
        self.assertEqual([worth_of(MACHINE, ("", ring)) for ring in ["a", "ab", "b"]], [(3, 1), (4, 3), (2, 1)])
        # It pays to lose at first.
        machine = (2, "a", ((((1, 0), (-2, 1)),), (((4, 1),),)))
        self.assertEqual(worth_of(machine, ("", "a")), (2, 1))
        machine = (2, "a", ((((1, 0), (-3, 1)),), (((6, 1),),)))
        self.assertEqual(worth_of(machine, ("", "a")), (3, 1))

    def test_rings_in_which_turns_differ(self):
        # 20, 19, 18, 17 and again, each divided by 9 and once more.
        worth = sum(Fraction(20 - at, 9 ** at) for at in range(4)) / (1 - Fraction(1, 9 ** 4))
        for row in [("", "a"), ("", "aaa"), ("aaaa", "aaaaa"), ("a", "a")]:
            self.assertEqual(worth_of(ROUND, row), number(worth))

    def test_against_sums_over_many_steps(self):
        source = series("sums")
        for machine in plains_and_others("sums", 72):
            for _ in range(3):
                row = row_of(source, machine[1])
                least, greatest = worth_bounds(machine, row, 150)
                worth = worth_of(machine, row)
                self.assertTrue(least <= Fraction(*worth) <= greatest)

    def test_lowest_terms(self):
        source = series("lowest")
        for machine in plains_and_others("lowest", 48):
            worth = worth_of(machine, row_of(source, machine[1]))
            self.assertEqual([type(worth)] + [type(part) for part in worth], [tuple, int, int])
            self.assertEqual(worth, number(Fraction(*worth)))

    def test_greatest_over_the_pairs_of_the_first_letter(self):
        source = series("pairs")
        for machine in plains_and_others("pairs", 72):
            for _ in range(3):
                row = row_of(source, machine[1])
                rest = rest_of(row)
                choice = choice_of(machine, 0, letter_at(row, 0))
                best = max(pay + followed(machine, rest, to) / machine[0] for pay, to in choice)
                self.assertEqual(worth_of(machine, row), number(best))

    def test_spelt_in_several_ways(self):
        source = series("spelt")
        for machine in plains_and_others("spelt", 72):
            row = row_of(source, machine[1])
            worth = worth_of(machine, row)
            for other in spellings(row):
                self.assertEqual(worth_of(machine, other), worth)
        self.assertEqual(worth_of(MACHINE, ("a", "b")), worth_of(MACHINE, ("ab", "bb")))

    def test_long_rows(self):
        source = series("long")
        for base in range(2, 10):
            for letters in ["a", "abc"]:
                machine = machine_of(source, base, letters, 4, 20)
                row = (word_of(source, letters, 1500), word_of(source, letters, 1500))
                worth = worth_of(machine, row)
                least, greatest = worth_bounds(machine, row, 80)
                self.assertTrue(least <= Fraction(*worth) <= greatest)
                rest = (row[0][1:], row[1])
                best = max(pay + followed(machine, rest, to) / base for pay, to in choice_of(machine, 0, row[0][0]))
                self.assertEqual(worth, number(best))

    def test_long_rings_are_read_to_the_end(self):
        machine = (2, "ab", (((0, 0), (1, 0)),))
        self.assertEqual(worth_of(machine, ("", "a" * 1499 + "b")), (2, 2 ** 1500 - 1))
        self.assertEqual(worth_of(machine, ("a" * 1499 + "b", "a")), (1, 2 ** 1499))
        self.assertEqual(worth_of(machine, ("a" * 1500, "b")), (1, 2 ** 1499))

    def test_great_plain_machines(self):
        round_trip = (2, "a", tuple([((10 ** 30 if at == 299 else 0, (at + 1) % 300),) for at in range(300)]))
        worth = number_of(2 * 10 ** 30, 2 ** 300 - 1)
        for row in [("", "a"), ("", "a" * 7), ("", "a" * 1500), ("a" * 1500, "a" * 1499)]:
            self.assertEqual(worth_of(round_trip, row), worth)
        late = (9, "a", tuple([((0, min(at + 1, 299)) if at < 299 else (-(10 ** 30), 299),) for at in range(300)]))
        self.assertEqual(worth_of(late, ("", "aa")), number_of(-9 * 10 ** 30, 8 * 9 ** 299))

    def test_letters_are_the_machines(self):
        machine = (2, "xz", (((0, 0), (1, 0)),))
        self.assertEqual(worth_of(machine, ("z", "x")), (1, 1))


class TableTest(unittest.TestCase):
    def test_small(self):
        self.assertEqual(worth_table(MACHINE, ("b", "a")), [{0: (5, 2)}, {0: (3, 1), 1: (4, 1)}])
        self.assertEqual(worth_table((2, "a", ((((1, 0),),),)), ("", "a")), [{0: (2, 1)}])
        self.assertEqual(worth_table((2, "ab", (((1, 0), (0, 0)),)), ("b", "ab")),
                         [{0: (2, 3)}, {0: (4, 3)}, {0: (2, 3)}])

    def test_states_that_read_there_in_a_later_turn(self):
        machine = (2, "a", tuple([((0, min(at + 1, 3)),) for at in range(4)]))
        self.assertEqual([list(sorted(part)) for part in worth_table(machine, ("", "a"))], [[0, 1, 2, 3]])
        self.assertEqual([list(sorted(part)) for part in worth_table(machine, ("aa", "aa"))], [[0], [1], [2, 3], [3]])
        self.assertEqual([list(sorted(part)) for part in worth_table(machine, ("", "aaa"))], [[0, 3], [1, 3], [2, 3]])

    def test_states_of_ways_that_are_not_best(self):
        machine = (2, "a", ((((9, 0), (-20, 1)),), (((-20, 2),),), (((-20, 2),),)))
        self.assertEqual(worth_table(machine, ("", "a")), [{0: (18, 1), 1: (-40, 1), 2: (-40, 1)}])

    def test_states_that_no_way_reaches(self):
        machine = (2, "ab", (((0, 0), (1, 0)), ((0, 1), (0, 0))))
        self.assertEqual(worth_table(machine, ("", "ab")), [{0: (2, 3)}, {0: (4, 3)}])

    def test_each_place_and_state(self):
        source = series("places")
        for machine in plains_and_others("places", 60):
            row = row_of(source, machine[1], 4)
            table = worth_table(machine, row)
            self.assertEqual([type(table)] + [type(part) for part in table], [list] + [dict] * len(table))
            self.assertEqual([set(part) for part in table], reading(machine, row, 12))
            for part in table:
                for state in part:
                    self.assertEqual(part[state], number(followed(machine, row, state)))
                row = rest_of(row)

    def test_each_place_goes_on_with_the_next_one(self):
        source = series("next")
        for machine in [machine_of(source, letters="abc", many=4), ROUND, TIES]:
            letters = machine[1]
            row = (word_of(source, letters, 1500), word_of(source, letters, 1500))
            table = worth_table(machine, row)
            self.assertEqual(len(table), 3000)
            for place, part in enumerate(table):
                after = table[place + 1] if place < 2999 else table[1500]
                # To reckon with such fractions at all places would take too long.
                if place % 100 == 99 or place < 3:
                    for state in part:
                        paid = [
                            Fraction(pay) + Fraction(*after[to]) / machine[0]
                            for pay, to in choice_of(machine, state, letter_at(row, place))
                        ]
                        self.assertEqual(part[state], number(max(paid)))

    def test_first_is_the_worth(self):
        source = series("first")
        for machine in plains_and_others("first", 48):
            row = row_of(source, machine[1])
            self.assertEqual(worth_table(machine, row)[0][0], worth_of(machine, row))

    def test_one_place_for_each_letter(self):
        for row in [("", "a"), ("", "ab"), ("ba", "ab"), ("bbb", "a"), ("ab", "abab")]:
            self.assertEqual(len(worth_table(MACHINE, row)), len(row[0]) + len(row[1]))


class ShowsWorthTest(unittest.TestCase):
    ROWS = [("", "a"), ("b", "a"), ("", "ab"), ("ba", "abb"), ("ab", "abab")]

    def shows(self, thing, machine=MACHINE, row=("b", "a")):
        before = copy.deepcopy(thing)
        shown = shows_worth(machine, row, thing)
        self.assertEqual(repr(thing), repr(before))
        return shown

    def test_the_told_one(self):
        source = series("told")
        for machine in plains_and_others("told", 48):
            row = row_of(source, machine[1])
            self.assertIs(shows_worth(machine, row, worth_table(machine, row)), True)

    def test_dicts_in_another_order(self):
        self.assertIs(self.shows([{0: (5, 2)}, {1: (4, 1), 0: (3, 1)}]), True)

    def test_of_another_row_or_machine(self):
        told = worth_table(MACHINE, ("b", "a"))
        self.assertIs(shows_worth(MACHINE, ("b", "aa"), told), False)
        self.assertIs(shows_worth(MACHINE, ("", "a"), told), False)
        self.assertIs(shows_worth(TIES, ("b", "a"), told), False)

    def test_numbers_changed(self):
        for row in self.ROWS:
            told = worth_table(MACHINE, row)
            for place, part in enumerate(told):
                for state, right in part.items():
                    for wrong in [
                        plus(right, (1, 1)), plus(right, (1, 10 ** 60)), plus(right, (-1, 3)), list(right), right[:1],
                        right + (1,), (right[0], True), (True, right[1]), (2 * right[0], 2 * right[1]), right[0], None,
                        float(right[0]), (float(right[0]), right[1]), Fraction(*right), (right,), (), "", Agreeing(),
                        (Agreeing(), Agreeing()), Broken(), {0: right[0], 1: right[1]},
                    ]:
                        thing = copy.copy(told)
                        thing[place] = {**part, state: wrong}
                        self.assertIs(shows_worth(MACHINE, row, thing), False)

    def test_states_changed(self):
        for row in self.ROWS:
            told = worth_table(MACHINE, row)
            for place, part in enumerate(told):
                changed = [{}, {**part, 2: (0, 1)}, {**part, -1: (3, 1)}, {**part, "0": (3, 1)}, {**part, None: (3, 1)}]
                for state in part:
                    others = {key: part[key] for key in part if key != state}
                    changed.append(others)
                    for key in [bool(state), float(state), str(state), (state,), state + 2, -1]:
                        changed.append({**others, key: part[state]})
                if len(part) == 1:
                    changed.append({0: part[0], 1: part[0]})
                for wrong in changed:
                    thing = copy.copy(told)
                    thing[place] = wrong
                    self.assertIs(shows_worth(MACHINE, row, thing), False)

    def test_dicts_left_out_and_put_in(self):
        for row in self.ROWS:
            told = worth_table(MACHINE, row)
            for place in range(len(told)):
                self.assertIs(shows_worth(MACHINE, row, told[:place] + told[place + 1:]), False)
                self.assertIs(shows_worth(MACHINE, row, told[:place] + [told[place]] + told[place:]), False)
            self.assertIs(shows_worth(MACHINE, row, told + [{}]), False)
            self.assertIs(shows_worth(MACHINE, row, [{}] + told), False)

    def test_dicts_exchanged(self):
        told = worth_table(MACHINE, ("b", "a"))
        self.assertIs(self.shows(told[::-1]), False)

    def test_other_kinds(self):
        told = worth_table(MACHINE, ("b", "a"))
        for thing in [tuple(told), (told,), [told], {0: told[0], 1: told[1]}, iter(told),
                      [list(part.items()) for part in told], [list(part) for part in told], told[0], told[1]]:
            self.assertIs(shows_worth(MACHINE, ("b", "a"), thing), False)
        for thing in other_things():
            self.assertIs(shows_worth(MACHINE, ("b", "a"), thing), False)
            self.assertIs(shows_worth(MACHINE, ("b", "a"), [told[0], thing]), False)
            self.assertIs(shows_worth(MACHINE, ("b", "a"), [told[0], {0: (3, 1), 1: thing}]), False)

    def test_keys_that_are_no_integers_but_equal_one(self):
        table = worth_table((2, "a", ((((1, 0),),),)), ("", "a"))
        self.assertEqual(table, [{False: (2, 1)}])
        for key in [False, 0.0, 0j, Fraction(0)]:
            self.assertIs(shows_worth((2, "a", ((((1, 0),),),)), ("", "a"), [{key: (2, 1)}]), False)

    def test_long(self):
        row = ("ab" * 750, "ba" * 750)
        told = worth_table(MACHINE, row)
        self.assertIs(shows_worth(MACHINE, row, told), True)
        n, d = told[-1][0]
        told[-1][0] = (n + d, d)
        self.assertIs(shows_worth(MACHINE, row, told), False)


if __name__ == "__main__":
    unittest.main()
