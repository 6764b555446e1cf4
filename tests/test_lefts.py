"""Whether numbers are worths of rows, and the places that show that one is none."""

import copy
import unittest
from fractions import Fraction

from laterless.errors import HasRow, TooGreat
from laterless.lefts import bars_of, row_with, shows_none
from laterless.machines import free_rule, is_of
from laterless.rows import worth_of
from makers import plain_of, rows_that_begin, rule_of, series
from parts import Agreeing, Broken, listed, of_other_kinds, other_things, part_at, paths_of, put
from reckoning import number, words
from slow import fraction, places, plain_worth, ranks, sum_along

DIGITS = (2, "ab", (((0, 0), (1, 0)),))
ALONE = ("ab", ((0, None),))
NONE = (DIGITS, ALONE, (1, 4))
# There is no row, and so many places: state 2 of the machines is not reached, but makes the bounds wide.
MANY = [
    (((2, "abc", (((2, 0), (1, 0), (0, 1)), ((-1, 1), (0, 1), (3, 1)), ((1000, 2), (-1000, 2), (0, 2)))),
      ("abc", ((2, 1, 0), (2, 1, 1), (0, 0, 0))), (-879, 64)), 1005),
    (((2, "abc", (((3, 0), (-2, 0), (-3, 1)), ((-1, 0), (0, 0), (-3, 0)), ((5000, 2), (-5000, 2), (0, 2)))),
      ("abc", ((3, 3, 1), (1, 2, 0), (1, None, 3), (0, 2, 1))), (925, 32)), 3915),
]


def searches(name, many):
    """Plain machines with rules and numbers, many of them worths of rows, with at most 600 places."""
    source, found = series(name), []
    while len(found) < many:
        base, letters = source.choice([2, 2, 3, 9]), "abc"[:source.randint(1, 3)]
        plain = plain_of(source, base, letters, source.randint(1, 4), source.choice([1, 2, 5, 20]))
        if len(found) % 3 == 0:
            # A state that no word reaches makes the bounds wide.
            wide = source.choice([20, 100])
            plain = (base, letters, plain[2] + (tuple([(source.choice([-wide, wide]), 0) for _ in letters]),))
        rule = rule_of(source, letters, source.randint(1, 3))
        row = rows_that_begin(source, source.choice([rule, free_rule(letters)]), "", 1)[0]
        told = number(plain_worth(plain, row) + source.choice([0, 0, Fraction(1, source.choice([base ** 5, 7, 12]))]))
        if len(places(plain, rule, told)) <= 600:
            found.append((plain, rule, told))
    return found


def bounds(plain):
    pays = [pay for state in plain[2] for pay, _ in state]
    return [Fraction(end(pays) * plain[0], plain[0] - 1) for end in (min, max)]


class RowWithTest(unittest.TestCase):
    def check(self, plain, rule, told):
        row = row_with(plain, rule, told)
        if row is not None:
            self.assertEqual([type(row), [type(part) for part in row]], [tuple, [str, str]])
            self.assertTrue(1 <= len(row[1]) <= 1500 and len(row[0]) <= 1500)
            self.assertIs(is_of(rule, row[0], ring=row[1]), True)
            self.assertEqual(number(plain_worth(plain, row)), told)
        return row

    def test_small(self):
        row = row_with(DIGITS, free_rule("ab"), (2, 3))
        self.assertEqual(worth_of(DIGITS, row), (2, 3))
        self.assertEqual(worth_of(DIGITS, row_with(DIGITS, free_rule("ab"), (2, 1))), (2, 1))
        self.assertIs(row_with(DIGITS, ALONE, (1, 4)), None)
        self.assertEqual(row_with(DIGITS, ALONE, (0, 1)), ("", "a"))
        self.assertIs(row_with(DIGITS, free_rule("ab"), (3, 1)), None)

    def test_worths_of_drawn_rows(self):
        source = series("worths")
        for plain, rule, _ in searches("worths", 100):
            for row in rows_that_begin(source, rule, "", 4):
                told = number(plain_worth(plain, row))
                if len(places(plain, rule, told)) <= 600:
                    self.assertIsNot(self.check(plain, rule, told), None)
                else:
                    self.assertRaises(TooGreat, row_with, plain, rule, told)

    def test_numbers_that_are_none(self):
        rows = {True: 0, False: 0}
        for plain, rule, told in searches("none", 150):
            steps = places(plain, rule, told)
            first = (0, 0, fraction(told))
            # Who can take more steps than there are places comes to one of them again.
            level = [first] if first in steps else []
            for _ in steps:
                level = sorted({later for place in level for later in steps[place]})
            row = self.check(plain, rule, told)
            self.assertIs(row is not None, bool(level))
            rows[row is not None] += 1
        self.assertGreater(min(rows.values()), 40)

    def test_beyond_the_bounds(self):
        for plain, rule, _ in searches("beyond", 40):
            low, high = bounds(plain)
            for wrong in [low - Fraction(1, 10 ** 40), high + Fraction(1, 10 ** 40), low - 1, high + 10 ** 50]:
                self.assertIs(row_with(plain, rule, number(wrong)), None)
                self.assertIs(row_with(plain, rule, number(wrong), limit=1), None)
                self.assertEqual(bars_of(plain, rule, number(wrong), limit=1), [])

    def test_on_the_bounds(self):
        plain = (3, "ab", (((-1, 0), (2, 0)),))
        self.assertEqual(row_with(plain, free_rule("ab"), (3, 1)), ("", "b"))
        self.assertEqual(row_with(plain, free_rule("ab"), (-3, 2)), ("", "a"))
        self.assertIs(row_with(plain, free_rule("ab"), (10 ** 40 * 3 + 1, 10 ** 40)), None)

    def test_bounds_by_all_pays(self):
        # State 1 is not reached, but its pay counts for the bounds.
        plain = (2, "a", (((1, 0),), ((9, 1),)))
        self.assertEqual(bars_of(plain, free_rule("a"), (3, 1)), [
            (0, 0, (3, 1), 4), (0, 0, (4, 1), 3), (0, 0, (6, 1), 2), (0, 0, (10, 1), 1), (0, 0, (18, 1), 0)])
        self.assertEqual(bars_of(plain, free_rule("a"), (19, 1)), [])

    def test_long_rings(self):
        plain = (2, "a", tuple([((1 if at == 0 else 0, (at + 1) % 300),) for at in range(300)]))
        worth = number(plain_worth(plain, ("", "a")))
        # The number has more digits than a caller would write.
        self.assertEqual(set(self.check(plain, free_rule("a"), worth)[1]), {"a"})
        self.assertRaises(TooGreat, row_with, plain, free_rule("a"), worth, limit=299)


class LimitTest(unittest.TestCase):
    def test_as_many_as_the_limit(self):
        for plain, rule, told in searches("limits", 80):
            many = len(places(plain, rule, told))
            for limit in {max(many, 1), min(many + 1, 600), 600}:
                self.assertEqual(row_with(plain, rule, told, limit=limit), row_with(plain, rule, told))
                if row_with(plain, rule, told) is None:
                    self.assertEqual(bars_of(plain, rule, told, limit=limit), bars_of(plain, rule, told))
                else:
                    self.assertRaises(HasRow, bars_of, plain, rule, told, limit=limit)
            for limit in {many - 1, many // 2, 1} - {0, -1, many}:
                if limit < many:
                    self.assertRaises(TooGreat, row_with, plain, rule, told, limit=limit)
                    self.assertRaises(TooGreat, bars_of, plain, rule, told, limit=limit)

    def test_default(self):
        # All n / d from 0 to 2 are reached but for the few that no other one is half of.
        for d in [101, 299, 307, 601, 10 ** 30 + 57]:
            told = (1, d)
            many = len(places(DIGITS, free_rule("ab"), told))
            for function, error in [(row_with, None), (bars_of, HasRow)]:
                if many > 600:
                    self.assertRaises(TooGreat, function, DIGITS, free_rule("ab"), told)
                elif error is not None:
                    self.assertRaises(error, function, DIGITS, free_rule("ab"), told)
                else:
                    self.assertEqual(worth_of(DIGITS, function(DIGITS, free_rule("ab"), told)), told)

    def test_too_great_ahead_of_has_row(self):
        told = (1, 7)
        many = len(places(DIGITS, free_rule("ab"), told))
        self.assertRaises(HasRow, bars_of, DIGITS, free_rule("ab"), told, limit=many)
        self.assertRaises(TooGreat, bars_of, DIGITS, free_rule("ab"), told, limit=many - 1)
        self.assertRaises(TooGreat, row_with, DIGITS, free_rule("ab"), told, limit=many - 1)


class BarsOfTest(unittest.TestCase):
    def test_small(self):
        self.assertEqual(bars_of(*NONE), [(0, 0, (1, 1), 1), (0, 0, (1, 2), 2), (0, 0, (1, 4), 3), (0, 0, (2, 1), 0)])
        self.assertEqual(bars_of(DIGITS, ALONE, (3, 1)), [])
        with self.assertRaises(HasRow):
            bars_of(DIGITS, free_rule("ab"), (2, 3))

    def test_all_places_with_their_ranks(self):
        some = 0
        for plain, rule, told in searches("bars", 150):
            if row_with(plain, rule, told) is not None:
                self.assertRaises(HasRow, bars_of, plain, rule, told)
                continue
            steps = places(plain, rule, told)
            bars = bars_of(plain, rule, told)
            some += len(bars) > 2
            self.assertEqual(bars, sorted(bars))
            self.assertEqual([type(part) for part in bars], [tuple] * len(bars))
            right = {(*place[:2], number(place[2])): rank for place, rank in ranks(steps).items()}
            self.assertEqual({part[:3]: part[3] for part in bars}, right)
            self.assertEqual(len(bars), len(right))
        self.assertGreater(some, 20)

    def test_places_by_words(self):
        for plain, rule, told in searches("by words", 90):
            bars = bars_of(plain, rule, told) if row_with(plain, rule, told) is None else []
            most = 1 + max([part[3] for part in bars], default=0)
            if len(plain[1]) ** most <= 3000 and row_with(plain, rule, told) is None:
                low, high = bounds(plain)
                kept, found = {"": True}, set()
                for word in words(plain[1], most):
                    total, state = sum_along(plain, word)
                    left = plain[0] ** len(word) * (fraction(told) - total)
                    kept[word] = kept[word[:-1]] and is_of(rule, word) and low <= left <= high
                    if kept[word]:
                        place = 0
                        for letter in word:
                            place = rule[1][place][rule[0].index(letter)]
                        found.add((place, state, number(left)))
                self.assertEqual(found, {part[:3] for part in bars})

    def test_ascending_by_n_and_then_d(self):
        plain = (2, "ab", (((0, 0), (3, 0)),))
        rule = ("ab", ((1, 1), (2, 2), (3, None), (3, None)))
        told = [part[2] for part in bars_of(plain, rule, (5, 16)) if part[0] == 3]
        self.assertEqual(told, sorted(told))
        values = [fraction(part[2]) for part in bars_of(DIGITS, ALONE, (1, 4))]
        self.assertNotEqual(values, sorted(values))


class ShowsNoneTest(unittest.TestCase):
    def none(self, name, many):
        return [search for search in searches(name, many) if row_with(*search) is None]

    def test_the_told_list(self):
        source = series("shown")
        for search in self.none("shown", 120):
            bars = bars_of(*search)
            self.assertIs(shows_none(*search, bars), True)
            self.assertIs(shows_none(*search, bars[::-1]), True)
            source.shuffle(bars)
            self.assertIs(shows_none(*search, bars), True)

    def test_tuples_changed(self):
        for search in self.none("changed", 80):
            bars = bars_of(*search)
            for at, part in enumerate(bars):
                changed = [bars[:at] + bars[at + 1:], bars + [part], bars[:at] + [part] + bars[at:],
                           bars + [(*part[:3], part[3] + 1)], bars + [(*part[:2], (10 ** 9, 1), 0)],
                           bars + [(part[0], part[1], number(fraction(part[2]) / 7 + Fraction(1, 10 ** 9)), part[3])]]
                for place in [0, 1, 3]:
                    for more in [-1, 1]:
                        changed.append(bars[:at] + [put(part, (place,), [part[place] + more])] + bars[at + 1:])
                n, d = part[2]
                for wrong in [(n + 1, d), (-n, d), (n, d + 1), (2 * n, 2 * d), (n, -d), (n, 0)]:
                    if wrong != (n, d):
                        changed.append(bars[:at] + [put(part, (2,), [wrong])] + bars[at + 1:])
                for wrong in changed:
                    self.assertIs(shows_none(*search, wrong), sorted_or_none(wrong) == bars)

    def test_where_there_is_a_row(self):
        for plain, rule, told in searches("has row", 80):
            if row_with(plain, rule, told) is not None:
                steps = places(plain, rule, told)
                for rank in [0, 1, len(steps)]:
                    thing = [(*place[:2], number(place[2]), rank) for place in steps]
                    self.assertIs(shows_none(plain, rule, told, thing), False)
                self.assertIs(shows_none(plain, rule, told, []), False)

    def test_beyond_the_bounds(self):
        self.assertIs(shows_none(DIGITS, ALONE, (3, 1), []), True)
        self.assertIs(shows_none(DIGITS, ALONE, (3, 1), [(0, 0, (3, 1), 0)]), False)
        for thing in other_things():
            if thing is not None and not isinstance(thing, (Agreeing, Broken)):
                self.assertIs(shows_none(DIGITS, ALONE, (3, 1), thing), type(thing) is list and len(thing) == 0)

    def test_kinds(self):
        bars = bars_of(*NONE)
        for thing in [tuple(bars), listed(tuple(bars)), [list(part) for part in bars], iter(bars), set(bars),
                      dict.fromkeys(bars), {part[:3]: part[3] for part in bars}, [bars], (bars,)]:
            self.assertIs(shows_none(*NONE, thing), False)
        for at, part in enumerate(bars):
            for path in paths_of(part)[1:]:
                for wrong in of_other_kinds(part_at(part, path)):
                    if type(wrong) is not type(part_at(part, path)):
                        changed = bars[:at] + [put(part, path, [wrong])] + bars[at + 1:]
                        self.assertIs(shows_none(*NONE, changed), False)
                self.assertIs(shows_none(*NONE, bars[:at] + [put(part, path, [])] + bars[at + 1:]), False)
                self.assertIs(shows_none(*NONE, bars[:at] + [(*part, part[3])] + bars[at + 1:]), False)
                again = [part_at(part, path)] * 2
                self.assertIs(shows_none(*NONE, bars[:at] + [put(part, path, again)] + bars[at + 1:]), False)

    def test_booleans(self):
        bars = bars_of(*NONE)
        for at, part in [(0, (False, 0, (1, 1), 1)), (0, (0, False, (1, 1), 1)), (0, (0, 0, (True, 1), 1)),
                         (0, (0, 0, (1, True), 1)), (0, (0, 0, (1, 1), True)), (3, (0, 0, (2, 1), False))]:
            self.assertEqual(bars[at], part)
            self.assertIs(shows_none(*NONE, bars[:at] + [part] + bars[at + 1:]), False)

    def test_any_things(self):
        bars = bars_of(*NONE)
        for thing in other_things() + [[Broken()], [Agreeing()], [(0, 0, Agreeing(), 0)]]:
            for whole in [thing, [thing], bars + [thing], [thing] + bars[1:], [(0, 0, thing, 1)] + bars[1:],
                          [(0, 0, (1, 1), thing)] + bars[1:] if not (type(thing) is int and thing == 1) else None]:
                self.assertIs(shows_none(*NONE, whole), False)

    def test_whatever_its_length(self):
        for search, many in MANY:
            steps = places(*search, most=9000)
            thing = [(*place[:2], number(place[2]), rank) for place, rank in ranks(steps).items()]
            self.assertEqual(len(thing), many)
            self.assertRaises(TooGreat, bars_of, *search)
            self.assertRaises(TooGreat, row_with, *search)
            self.assertIs(shows_none(*search, thing), True)
            self.assertIs(shows_none(*search, thing[:-1]), False)
            self.assertIs(shows_none(*search, thing[1:]), False)
            self.assertIs(shows_none(*search, thing + [thing[7]]), False)
            self.assertIs(shows_none(*search, thing[:-1] + [(*thing[-1][:3], thing[-1][3] + 1)]), False)

    def test_things_are_as_before(self):
        for thing in [bars_of(*NONE), [], [[0, 0, (1, 1), 1]], bars_of(*NONE)[::-1]]:
            before = copy.deepcopy(thing)
            shows_none(*NONE, thing)
            self.assertEqual(thing, before)


def sorted_or_none(thing):
    """The list in ascending order, if there is such an order and all its numbers are such."""
    if any(part[2][1] <= 0 or number(fraction(part[2])) != part[2] for part in thing):
        return None
    return sorted(thing)


if __name__ == "__main__":
    unittest.main()
