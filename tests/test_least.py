"""States that are like others, least machines, and whether two plain machines pay the same."""

import copy
import unittest
from fractions import Fraction

from laterless.errors import HasRow, TooGreat
from laterless.lacks import led
from laterless.least import least_of, like_by, same_table, shows_same, unlike
from laterless.rows import worth_of
from makers import MACHINE, plain_of, row_of, series, twins_of, wheel
from parts import Agreeing, Broken, listed, of_other_kinds, other_things, part_at, paths_of, put
from reckoning import number, words
from slow import differences, fraction, plain_worth, short_rows, step_on, sum_along

PLAIN = (2, "ab", (((0, 1), (1, 0)), ((1, 1), (2, 0))))
ONE, OTHER = (2, "a", (((1, 1),), ((0, 1),))), (2, "a", (((0, 1),), ((1, 1),)))


def machines(name, many):
    """Small plain machines, most of them with twins, some with states that no word reaches."""
    source, found = series(name), []
    for at in range(many):
        plain = plain_of(source, source.choice([2, 2, 3, 9]), "ab"[:1 + at % 2], source.randint(1, 3),
                         source.choice([1, 1, 2, 20]))
        found.append(twins_of(source, plain, at % 4))
    return found


def same_ones(name, many):
    """Pairs of plain machines that pay the same for every row."""
    source, found = series(name), []
    for plain in machines(name, many):
        twin = twins_of(source, plain, source.randint(0, 3))
        found.append((plain, led(twin) if source.random() < 0.5 else twin))
    return found


def late(many):
    """A plain machine that goes round many states, and pays for b in the last one alone."""
    ahead = tuple([((0, at + 1), (0, at + 1)) for at in range(many - 1)])
    return (2, "ab", ahead + (((0, 0), (1, 0)),))


def closed(plain, other, pairs):
    """The pairs with what follows from them; None if there is a second tuple for some pair."""
    found = list(pairs)
    for p, q, c in found:
        for letter in plain[1]:
            (x, to), (y, end) = step_on(plain, p, letter), step_on(other, q, letter)
            later = (to, end, int(plain[0] * (c + x - y)))
            if later not in found:
                if later[:2] in [part[:2] for part in found]:
                    return None
                found.append(later)
    return found


class LikeByTest(unittest.TestCase):
    def test_small(self):
        self.assertEqual([like_by(PLAIN, 0, 1), like_by(PLAIN, 1, 0), like_by(PLAIN, 0, 0)], [(1, 1), (-1, 1), (0, 1)])
        self.assertIs(like_by((2, "ab", (((0, 0), (0, 1)), ((0, 1), (1, 1)))), 0, 1), None)
        # One third more at the first step of three, and so on: the number need not be an integer.
        self.assertEqual(like_by((3, "a", (((0, 0),), ((1, 1),))), 0, 1), (3, 2))

    def test_against_the_worths_of_all_short_rows(self):
        found = {True: 0, False: 0}
        for plain in machines("like", 90):
            many = len(plain[2])
            for p in range(many):
                for q in range(many):
                    rows = short_rows(plain[1], many)
                    more = {plain_worth(plain, row, q) - plain_worth(plain, row, p) for row in rows}
                    told = like_by(plain, p, q)
                    self.assertEqual(told, number(more.pop()) if len(more) == 1 else None)
                    found[told is None] += 1
        self.assertGreater(min(found.values()), 100)

    def test_drawn_rows(self):
        source = series("like rows")
        for plain in machines("like rows", 40):
            for p in range(len(plain[2])):
                for q in range(len(plain[2])):
                    told = like_by(plain, p, q)
                    for _ in range(4 if told is not None else 0):
                        row = row_of(source, plain[1])
                        self.assertEqual(
                            plain_worth(plain, row, q) - plain_worth(plain, row, p), fraction(told))

    def test_states_that_no_word_reaches(self):
        plain = (2, "a", (((0, 0),), ((1, 2),), ((3, 1),)))
        self.assertEqual([like_by(plain, 0, 1), like_by(plain, 2, 1)], [(10, 3), (-4, 3)])

    def test_great_pays(self):
        plain = (9, "ab", (((10 ** 30, 0), (-(10 ** 30), 0)), ((10 ** 30 - 9, 0), (-(10 ** 30) - 9 + 9, 1))))
        self.assertIs(like_by(plain, 0, 1), None)
        plain = (9, "ab", (((10 ** 30 - 9, 0), (-(10 ** 30), 0)), ((10 ** 30, 0), (9 - 10 ** 30, 0))))
        self.assertEqual(like_by(plain, 0, 1), (9, 1))

    def test_differences_far_behind(self):
        # The states differ after 299 letters at the earliest.
        plain = late(300)
        self.assertIs(like_by(plain, 0, 1), None)
        self.assertEqual(like_by(plain, 7, 7), (0, 1))
        self.assertEqual(like_by(wheel(9, 298), 0, 297), (0, 1))


class LeastOfTest(unittest.TestCase):
    def test_small(self):
        self.assertEqual(least_of(PLAIN), ((1, 1), 2, "ab", ((((0, 1), 0), ((1, 2), 0)),)))
        self.assertEqual(least_of((3, "a", (((1, 1),), ((2, 0),)))), ((15, 8), 3, "a", ((((0, 1), 0),),)))

    def test_forms(self):
        for plain in machines("forms", 60):
            told = least_of(plain)
            self.assertEqual([type(told), len(told), told[1:3]], [tuple, 4, plain[:2]])
            self.assertEqual(told[0], worth_of(plain, ("", plain[1][0])))
            for state in told[3]:
                self.assertEqual([type(state), len(state)], [tuple, len(plain[1])])
                for pay, to in state:
                    self.assertEqual(number(fraction(pay)), pay)
                    self.assertTrue(type(to) is int and 0 <= to < len(told[3]))

    def test_pays_the_same(self):
        source = series("pays")
        for plain in machines("pays", 60):
            first, least = least_of(plain)[0], least_of(plain)[1:]
            for row in short_rows(plain[1], 3) + [row_of(source, plain[1]) for _ in range(5)]:
                self.assertEqual(fraction(first) + plain_worth(least, row), plain_worth(plain, row))

    def test_nothing_for_the_first_letter(self):
        for plain in machines("nothing", 60):
            least = least_of(plain)[1:]
            for state in range(len(least[2])):
                self.assertEqual(plain_worth(least, ("", plain[1][0]), state), 0)

    def test_fewest_states(self):
        for plain in machines("fewest", 90):
            reached = {sum_along(plain, word)[1] for word in words(plain[1], len(plain[2]))}
            kinds = {differences(plain, state, len(plain[2])) for state in reached}
            self.assertEqual(len(least_of(plain)[3]), len(kinds))

    def test_order_of_words(self):
        for plain in machines("order", 60):
            least, met = least_of(plain)[1:], [0]
            for word in words(plain[1], len(least[2])):
                state = sum_along(least, word)[1]
                if state not in met:
                    met.append(state)
            self.assertEqual(met, list(range(len(least[2]))))

    def test_one_for_all_of_the_same_worth(self):
        for plain, other in same_ones("one for all", 60):
            self.assertEqual(least_of(plain), least_of(other))

    def test_hundreds_of_states(self):
        plain = late(300)
        self.assertEqual(len(least_of(plain)[3]), 300)
        self.assertEqual(least_of(wheel(2, 298)), ((0, 1), 2, "a", ((((0, 1), 0),),)))


class UnlikeTest(unittest.TestCase):
    def test_small(self):
        one, two = (2, "ab", (((0, 0), (1, 0)),)), (2, "ab", (((0, 0), (0, 0)),))
        row = unlike(one, two)
        self.assertNotEqual(worth_of(one, row), worth_of(two, row))
        self.assertIs(unlike(ONE, OTHER), None)
        self.assertIs(unlike(PLAIN, PLAIN), None)

    def test_same_ones(self):
        for plain, other in same_ones("same", 90):
            self.assertIs(unlike(plain, other), None)
            self.assertIs(unlike(other, plain), None)

    def test_against_all_short_rows(self):
        source, found = series("unlike"), {True: 0, False: 0}
        pool = machines("unlike", 40) + [one for pair in same_ones("unlike", 10) for one in pair]
        for plain in pool:
            for other in source.sample(pool, 12):
                if plain[:2] == other[:2]:
                    rows = short_rows(plain[1], min(len(plain[2]) + len(other[2]), 7))
                    right = all(plain_worth(plain, row) == plain_worth(other, row) for row in rows)
                    row = unlike(plain, other)
                    self.assertIs(row is None, right)
                    found[right] += 1
                    if row is not None:
                        self.check(plain, other, row)
        self.assertGreater(min(found.values()), 5)

    def check(self, plain, other, row):
        self.assertEqual([type(row), [type(part) for part in row]], [tuple, [str, str]])
        self.assertTrue(1 <= len(row[1]) <= 1500 and len(row[0]) <= 1500 and set(row[0] + row[1]) <= set(plain[1]))
        self.assertNotEqual(plain_worth(plain, row), plain_worth(other, row))

    def test_a_pay_changed(self):
        source = series("a pay")
        for plain, other in same_ones("a pay", 80):
            reached = sorted({sum_along(other, word)[1] for word in words(other[1], len(other[2]))})
            path = (source.choice(reached), source.randrange(len(other[1])), 0)
            changed = put(other[2], path, [part_at(other[2], path) + source.choice([-1, 1])])
            self.check(plain, (*other[:2], changed), unlike(plain, (*other[:2], changed)))

    def test_a_constant_moved_along_a_step(self):
        # What is paid less at one step is paid more at the next one.
        for base in [2, 3, 9]:
            one = (base, "ab", (((0, 1), (4, 0)), ((5, 0), (7, 1))))
            for moved in [0, 1, -1, 10]:
                other = (base, "ab", (((-moved, 1), (4, 0)), ((5 + moved * base, 0), (7 + moved * base - moved, 1))))
                self.assertIs(unlike(one, other), None)
                wrong = (base, "ab", (((-moved, 1), (4, 0)), ((5 + moved * base, 0), (8 + moved * base - moved, 1))))
                self.check(one, wrong, unlike(one, wrong))

    def test_far_behind(self):
        one, two = late(300), late(299)
        self.check(one, two, unlike(one, two))
        self.check(two, one, unlike(two, one))
        nothing = (2, "ab", two[2][:-1] + (((0, 0), (0, 0)),))
        self.check(two, nothing, unlike(two, nothing))
        self.assertIs(unlike(one, one), None)


class SameTableTest(unittest.TestCase):
    def test_small(self):
        self.assertEqual(same_table(ONE, OTHER), [(0, 0, 0), (1, 1, 2)])
        self.assertEqual(same_table(PLAIN, PLAIN), [(0, 0, 0), (1, 1, 0)])

    def test_against_the_sums_along_words(self):
        for plain, other in same_ones("sums", 80):
            table = same_table(plain, other)
            self.assertEqual(table, sorted(table))
            found = set()
            for word in words(plain[1], 7):
                (total, p), (less, q) = sum_along(plain, word), sum_along(other, word)
                found.add((p, q, plain[0] ** len(word) * (total - less)))
            self.assertTrue(found <= set(table))
            self.assertEqual({part[:2] for part in found}, {part[:2] for part in table})
            for part in table:
                self.assertEqual([type(part), [type(one) for one in part]], [tuple, [int, int, int]])

    def test_limits(self):
        for plain, other in same_ones("limits", 40):
            many = len(same_table(plain, other))
            for limit in {many, many + 1, 600}:
                self.assertEqual(same_table(plain, other, limit=limit), same_table(plain, other))
            for limit in {1, many - 1} - {0, many}:
                self.assertRaises(TooGreat, same_table, plain, other, limit=limit)

    def test_default_limit(self):
        self.assertEqual(len(same_table(wheel(2, 24), wheel(2, 25))), 600)
        self.assertRaises(TooGreat, same_table, wheel(2, 24), wheel(2, 25), limit=599)
        self.assertRaises(TooGreat, same_table, wheel(2, 23), wheel(2, 27))

    def test_has_row(self):
        source = series("has row")
        for plain, other in same_ones("has row", 40):
            reached = sorted({sum_along(other, word)[1] for word in words(other[1], len(other[2]))})
            path = (source.choice(reached), 0, 0)
            changed = (*other[:2], put(other[2], path, [part_at(other[2], path) + 1]))
            self.assertRaises(HasRow, same_table, plain, changed)
            many = len(same_table(plain, other))
            self.assertRaises(HasRow, same_table, plain, changed, limit=many)
            if many > 1:
                # Too many pairs are told first.
                self.assertRaises(TooGreat, same_table, plain, changed, limit=many - 1)

    def test_too_great_ahead_of_has_row(self):
        one = (2, "a", (((5, 1),),) + wheel(2, 25)[2][1:])
        self.assertRaises(HasRow, same_table, one, wheel(2, 24))
        self.assertRaises(TooGreat, same_table, one, wheel(2, 24), limit=599)
        self.assertRaises(TooGreat, same_table, one, wheel(2, 27), limit=600)
        self.assertRaises(HasRow, same_table, (2, "a", (((1, 0),),)), (2, "a", (((0, 0),),)), limit=1)


class ShowsSameTest(unittest.TestCase):
    def test_the_told_table(self):
        source = series("shown")
        for plain, other in same_ones("shown", 80):
            table = same_table(plain, other)
            self.assertIs(shows_same(plain, other, table), True)
            self.assertIs(shows_same(plain, other, table[::-1]), True)
            source.shuffle(table)
            self.assertIs(shows_same(plain, other, table), True)

    def test_closed_ones_with_more_in_it(self):
        source, more = series("more"), 0
        for plain, other in same_ones("more", 90):
            table = same_table(plain, other)
            for _ in range(4):
                p, q = source.randrange(len(plain[2])), source.randrange(len(other[2]))
                ahead = plain_worth(other, ("", other[1][0]), q) - plain_worth(plain, ("", plain[1][0]), p)
                c = int(ahead) if source.random() < 0.7 else source.randint(-9, 9)
                thing = closed(plain, other, table + [(p, q, c)])
                if (p, q) in [part[:2] for part in table]:
                    continue
                if thing is None:
                    self.assertIs(shows_same(plain, other, table + [(p, q, c)]), False)
                else:
                    more += 1
                    self.assertIs(shows_same(plain, other, thing), True)
                    self.assertIs(shows_same(plain, other, thing[::-1]), True)
        self.assertGreater(more, 20)

    def test_more_in_it(self):
        one, other = (2, "a", (((0, 0),), ((1, 1),))), (2, "a", (((0, 0),), ((3, 1),), ((1, 2),)))
        for thing, right in [
            ([(0, 0, 0)], True), ([(0, 0, 0), (1, 1, 4)], True), ([(0, 0, 0), (1, 2, 0)], True),
            ([(0, 0, 0), (1, 1, 4), (1, 2, 0)], True), ([(1, 2, 0), (1, 1, 4), (0, 0, 0)], True),
            ([(0, 0, 0), (1, 1, 3)], False), ([(0, 0, 0), (1, 1, 4), (1, 1, 4)], False), ([(1, 1, 4)], False),
            ([(0, 0, 0), (1, 1, 4), (1, 1, 5)], False), ([(0, 0, 1)], False), ([(0, 0, 0), (2, 1, 4)], False),
            ([(0, 0, 0), (1, 3, 0)], False), ([(0, 0, 0), (-1, 2, 0)], False), ([(0, 0, 0), (1, -1, 0)], False),
            ([(0, 0, 0), (0, 2, -2)], False), ([], False), ([(0, 0, 0), (0, 1, 6)], True),
            ([(0, 0, 0), (0, 1, 5)], False),
        ]:
            self.assertIs(shows_same(one, other, thing), right)
        # The last states, counted from behind.
        for wrong in [(-1, 2, 0), (1, -1, 0), (-1, -1, 0)]:
            self.assertIs(shows_same(one, other, [(0, 0, 0), (1, 2, 0), wrong]), False)

    def test_a_constant_more(self):
        # One pays 1 more for the one row there is, and nothing else is wrong with these lists.
        one, other = (2, "a", (((1, 1),), ((0, 1),))), (2, "a", (((0, 0),),))
        self.assertIs(shows_same(one, other, [(0, 0, -1), (1, 0, 0)]), False)
        self.assertIs(shows_same(other, one, [(0, 0, 1), (0, 1, 0)]), False)
        self.assertRaises(HasRow, same_table, one, other)

    def test_tuples_changed(self):
        for plain, other in same_ones("changed", 50):
            table = same_table(plain, other)
            for at, part in enumerate(table):
                changed = [table[:at] + table[at + 1:], table + [part], table[:at] + [part] + table[at:],
                           table + [(*part[:2], part[2] + 1)], table + [(*part[:2], 10 ** 60)]]
                for place in range(3):
                    for more in [-1, 1, 10 ** 9]:
                        changed.append(table[:at] + [put(part, (place,), [part[place] + more])] + table[at + 1:])
                for wrong in changed:
                    # With one pair alone, all constants but 0 at first lead to others.
                    self.assertIs(shows_same(plain, other, wrong), False)

    def test_unlike_ones(self):
        source = series("unlike ones")
        for plain, other in same_ones("unlike ones", 40):
            reached = sorted({sum_along(other, word)[1] for word in words(other[1], len(other[2]))})
            path = (source.choice(reached), 0, 0)
            changed = (*other[:2], put(other[2], path, [part_at(other[2], path) + 1]))
            self.assertIs(shows_same(plain, changed, same_table(plain, other)), False)

    def test_kinds(self):
        table = same_table(ONE, OTHER)
        self.assertIs(shows_same(ONE, OTHER, table), True)
        for thing in [tuple(table), [list(part) for part in table], listed(tuple(table)), iter(table), set(table),
                      dict.fromkeys(table), {part[:2]: part[2] for part in table}, [table], (table,), table[0]]:
            self.assertIs(shows_same(ONE, OTHER, thing), False)
        for at, part in enumerate(table):
            for path in paths_of(part)[1:]:
                for wrong in of_other_kinds(part_at(part, path)):
                    if type(wrong) is not int:
                        changed = table[:at] + [put(part, path, [wrong])] + table[at + 1:]
                        self.assertIs(shows_same(ONE, OTHER, changed), False)
            for wrong in [part[:2], (*part, 0), (), part[0]]:
                self.assertIs(shows_same(ONE, OTHER, table[:at] + [wrong] + table[at + 1:]), False)
        for thing in other_things() + [[Broken()], [Agreeing()], [(0, 0, Agreeing())]]:
            for whole in [thing, [thing], table + [thing], [thing] + table, table + [(thing, 1, 0)],
                          table + [(1, 0, thing)], [(0, 0, thing), table[1]]]:
                if not (type(thing) is int and thing in (0, 1)):
                    self.assertIs(shows_same(ONE, OTHER, whole), False)

    def test_booleans(self):
        for wrong in [[(False, 0, 0), (1, 1, 2)], [(0, False, 0), (1, 1, 2)], [(0, 0, False), (1, 1, 2)],
                      [(0, 0, 0), (True, 1, 2)], [(0, 0, 0), (1, True, 2)], [(0, 0, 0.0), (1, 1, 2)]]:
            self.assertEqual(wrong, same_table(ONE, OTHER))
            self.assertIs(shows_same(ONE, OTHER, wrong), False)

    def test_thousands(self):
        table = [(at % 92, at % 95, 0) for at in range(8740)]
        self.assertIs(shows_same(wheel(2, 92), wheel(2, 95), table), True)
        self.assertIs(shows_same(wheel(2, 92), wheel(2, 95), table[:-1]), False)
        self.assertRaises(TooGreat, same_table, wheel(2, 92), wheel(2, 95))

    def test_things_are_as_before(self):
        for thing in [same_table(ONE, OTHER), [(0, 0, 0), [1, 1, 2]], [(0, 0, 0)]]:
            before = copy.deepcopy(thing)
            shows_same(ONE, OTHER, thing)
            self.assertEqual(thing, before)


class PaysTest(unittest.TestCase):
    def test_pays_of_the_least_machine_are_forced(self):
        for plain in machines("forced", 60):
            first, least = least_of(plain)[0], least_of(plain)[1:]
            row = ("", plain[1][0])
            for state in {sum_along(plain, word)[1] for word in words(plain[1], 4)}:
                word = next(word for word in words(plain[1], 4) if sum_along(plain, word)[1] == state)
                place = sum_along(least, word)[1]
                for letter in plain[1]:
                    (pay, to), (own, _) = step_on(plain, state, letter), step_on(least, place, letter)
                    ahead = Fraction(plain_worth(plain, row, to)) / plain[0] - plain_worth(plain, row, state)
                    self.assertEqual(own, pay + ahead)
            self.assertEqual(fraction(first), plain_worth(plain, row))

    def test_of_a_led_machine(self):
        plain = led(MACHINE)
        self.assertEqual(len(least_of(plain)[3]), 2)
        self.assertEqual(like_by(plain, 1, 2), (0, 1))


if __name__ == "__main__":
    unittest.main()
