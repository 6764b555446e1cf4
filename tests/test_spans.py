"""How far one machine can be above another one, and the least and the greatest worths."""

import copy
import unittest
from fractions import Fraction

from laterless.errors import NoWord, TooGreat
from laterless.lacks import led
from laterless.machines import free_rule, is_of
from laterless.rows import worth_of
from laterless.spans import apart, apart_table, shows_apart, span
from makers import EXACT, MACHINE, machine_of, plain_of, rows_that_begin, rule_of, series, spellings, wheel
from makers import word_of_rule
from parts import Agreeing, Broken, listed, of_other_kinds, other_things, part_at, paths_of, put
from reckoning import number, pays_of
from slow import best_on, fraction, plain_worth, sum_along, triples

ONE, NONE = (2, "ab", (((2, 0), (-1, 0)),)), (2, "ab", (((0, 0), (0, 0)),))
RULE = ("ab", ((None, 1), (0, None)))
OTHER = (2, "ab", ((((1, 1), (0, 1)), ((1, 0),)), (((0, 1),), ((2, 0),))))


def contests(name, many):
    """Machines with choices and plain ones, of one to three letters, with rules, that have at most 100 triples."""
    source, found = series(name), []
    for at in range(many):
        base, letters = source.choice([2, 2, 3, 9]), "abc"[:1 + at % 3]
        pair = [
            plain_of(source, base, letters, source.choice([1, 2, 4])) if source.random() < 0.4 else
            machine_of(source, base, letters, most=source.choice([1, 2, 5]))
            for _ in range(2)
        ]
        contest = (*pair, rule_of(source, letters) if at % 4 else free_rule(letters))
        try:
            apart(*contest, limit=100)
        except TooGreat:
            continue
        found.append(contest)
    return found


def told(contest):
    return (*apart(*contest), apart_table(*contest))


class ApartTest(unittest.TestCase):
    def test_small(self):
        self.assertEqual(apart(ONE, NONE, free_rule("ab")), ((4, 1), ("", "a")))
        self.assertEqual(apart(ONE, NONE, RULE)[0], (0, 1))
        self.assertEqual(apart_table(ONE, NONE, RULE), [(0, 0, 0, (0, 1)), (1, 0, 0, (2, 1))])
        self.assertEqual(apart(NONE, ONE, free_rule("ab")), ((2, 1), ("", "b")))

    def test_the_told_row(self):
        for one, other, rule in contests("told", 150):
            told_number, row = apart(one, other, rule)
            self.assertEqual([type(told_number), type(row), [type(part) for part in row]], [tuple, tuple, [str, str]])
            self.assertTrue(1 <= len(row[1]) <= 1500 and len(row[0]) <= 1500)
            self.assertIs(is_of(rule, row[0], ring=row[1]), True)
            above = plain_worth(led(one), row) - plain_worth(led(other), row)
            self.assertEqual(told_number, number(above))

    def test_no_drawn_row_has_more(self):
        source = series("no more")
        for one, other, rule in contests("no more", 100):
            most = fraction(apart(one, other, rule)[0])
            least = -fraction(apart(other, one, rule)[0])
            plains = led(one), led(other)
            for row in rows_that_begin(source, rule, "", 20):
                self.assertTrue(least <= plain_worth(plains[0], row) - plain_worth(plains[1], row) <= most)

    def test_the_table(self):
        for one, other, rule in contests("table", 120):
            table = apart_table(one, other, rule)
            self.assertEqual([type(table)] + [type(part) for part in table], [list] + [tuple] * len(table))
            self.assertEqual([part[:3] for part in table], sorted(triples(one, led(other), rule)))
            worths = {part[:3]: fraction(part[3]) for part in table}
            for triple, worth in worths.items():
                self.assertEqual(worth, best_on(one, led(other), rule, triple, worths))
            self.assertEqual([part[3] for part in table], [number(worth) for worth in worths.values()])
            self.assertEqual(apart(one, other, rule)[0], table[0][3])

    def test_great_pays(self):
        one, other = (9, "a", (((10 ** 30, 1),), ((0, 0),))), (9, "a", (((-(10 ** 30), 1),), ((1, 0),)))
        worth = plain_worth(one, ("", "a")) - plain_worth(other, ("", "a"))
        told_number, row = apart(one, other, free_rule("a"))
        self.assertEqual([told_number, row[0], set(row[1])], [number(worth), "", {"a"}])

    def test_long_rows(self):
        # The one row goes round 24 * 25 triples.
        one, other = wheel(2, 24), (2, "a", tuple([((1 if at == 24 else 0, (at + 1) % 25),) for at in range(25)]))
        told_number, row = apart(one, other, free_rule("a"))
        self.assertEqual([row[0], set(row[1])], ["", {"a"}])
        self.assertEqual(told_number, number(-plain_worth(other, ("", "a"))))
        self.assertEqual(len(apart_table(one, other, free_rule("a"))), 600)

    def test_limits(self):
        for contest in contests("limits", 60):
            many = len(apart_table(*contest))
            for function in [apart, apart_table]:
                for limit in {many, many + 1, 600}:
                    self.assertEqual(function(*contest, limit=limit), function(*contest))
                for limit in {1, many - 1, many // 2} - {0, many}:
                    self.assertRaises(TooGreat, function, *contest, limit=limit)

    def test_default_limit(self):
        for function in [apart, apart_table]:
            function(wheel(2, 24), wheel(2, 25), free_rule("a"))
            self.assertRaises(TooGreat, function, wheel(2, 24), wheel(2, 25), free_rule("a"), limit=599)
            self.assertRaises(TooGreat, function, wheel(2, 23), wheel(2, 27), free_rule("a"))
            self.assertRaises(TooGreat, function, wheel(2, 23), wheel(2, 27), free_rule("a"), limit=600)

    def test_too_many_dicts_of_other(self):
        rule = ("abc", ((0, None, None),))
        for function in [apart, apart_table]:
            self.assertRaises(TooGreat, function, EXACT[300], EXACT[301], rule)
            # One is not led, so it may have as many dicts as it has.
            function(EXACT[301], EXACT[300], rule)


class ShowsApartTest(unittest.TestCase):
    def test_the_told_answer(self):
        source = series("shown")
        for contest in contests("shown", 120):
            told_number, row, table = told(contest)
            self.assertIs(shows_apart(*contest, (told_number, row, table)), True)
            self.assertIs(shows_apart(*contest, (told_number, row, table[::-1])), True)
            source.shuffle(table)
            self.assertIs(shows_apart(*contest, (told_number, row, table)), True)
            for other_row in spellings(row):
                self.assertIs(shows_apart(*contest, (told_number, other_row, table)), True)

    def test_rows(self):
        source = series("rows")
        reached = 0
        for one, other, rule in contests("rows", 80):
            told_number, row, table = told((one, other, rule))
            for drawn in rows_that_begin(source, rule, "", 8) + rows_that_begin(source, free_rule(rule[0]), "", 4):
                above = plain_worth(led(one), drawn) - plain_worth(led(other), drawn)
                right = is_of(rule, drawn[0], ring=drawn[1]) and above == fraction(told_number)
                reached += right
                self.assertIs(shows_apart(one, other, rule, (told_number, drawn, table)), right)
        self.assertGreater(reached, 20)

    def test_rows_that_reach_less(self):
        source, less = series("less"), 0
        for one, other, rule in contests("less", 60):
            told_number, _, table = told((one, other, rule))
            for drawn in rows_that_begin(source, rule, "", 6):
                above = number(plain_worth(led(one), drawn) - plain_worth(led(other), drawn))
                less += above != told_number
                self.assertIs(shows_apart(one, other, rule, (above, drawn, table)), above == told_number)
        self.assertGreater(less, 60)

    def test_a_row_that_the_rule_bars(self):
        rule = ("ab", ((0, None),))
        table = apart_table(NONE, NONE, rule)
        self.assertIs(shows_apart(NONE, NONE, rule, ((0, 1), ("", "a"), table)), True)
        for row in [("", "b"), ("b", "a"), ("a", "ab"), ("", "aab"), ("a" * 1500, "a" * 1499 + "b")]:
            self.assertIs(shows_apart(NONE, NONE, rule, ((0, 1), row, table)), False)

    def test_other_rows(self):
        rule = free_rule("ab")
        table = apart_table(NONE, NONE, rule)
        for row in [("a" * 1500, "b" * 1500), ("", "ab"), ("abba", "b")]:
            self.assertIs(shows_apart(NONE, NONE, rule, ((0, 1), row, table)), True)
        for row in [("a" * 1501, "b"), ("a", "b" * 1501), ("", ""), ("a", ""), ("", "c"), ("c", "a"), ["", "a"], "a",
                    ("a",), ("", "a", ""), ("", b"a"), (("",), "a"), ("", ("a",)), ("", "A"), None, Broken(),
                    Agreeing(), ("", Agreeing()), (Broken(), "a"), ("", ["a"])]:
            self.assertIs(shows_apart(NONE, NONE, rule, ((0, 1), row, table)), False)

    def test_numbers_changed(self):
        for contest in contests("numbers", 60):
            told_number, row, table = told(contest)
            for wrong in [(told_number[0] + 1, told_number[1]), (told_number[0] - 1, told_number[1]),
                          (told_number[0], told_number[1] + 1), (2 * told_number[0], 2 * told_number[1])]:
                if wrong != told_number:
                    self.assertIs(shows_apart(*contest, (wrong, row, table)), False)
            for at, part in enumerate(table):
                n, d = part[3]
                for wrong in [(n + d, d), (n - d, d), (n, -d), (2 * n, 2 * d), (n, d + 1), (n, 0)]:
                    if wrong != (n, d):
                        changed = table[:at] + [part[:3] + (wrong,)] + table[at + 1:]
                        self.assertIs(shows_apart(*contest, (told_number, row, changed)), False)
            shifted = [part[:3] + (number(fraction(part[3]) + 1),) for part in table]
            self.assertIs(shows_apart(*contest, (number(fraction(told_number) + 1), row, shifted)), False)

    def test_tuples_left_out_and_put_in(self):
        for contest in contests("tuples", 60):
            told_number, row, table = told(contest)
            for at, part in enumerate(table):
                changed = [table[:at] + table[at + 1:], table + [part], table[:at] + [part] + table[at:],
                           table + [part[:3] + ((part[3][0] + 1, 1),)]]
                for place in range(3):
                    other = put(part, (place,), [part[place] + 1])
                    if other[:3] not in [one[:3] for one in table]:
                        changed.extend([table + [other], table[:at] + [other] + table[at + 1:]])
                for wrong in changed:
                    self.assertIs(shows_apart(*contest, (told_number, row, wrong)), False)
            self.assertIs(shows_apart(*contest, (told_number, row, [])), False)

    def test_triples_that_are_not_reached(self):
        # State 1 of one is not reached, though its equation would hold.
        one = (2, "a", (((0, 0),), ((0, 1),)))
        none = (2, "a", (((0, 0),),))
        self.assertIs(shows_apart(one, none, free_rule("a"), ((0, 1), ("", "a"), [(0, 0, 0, (0, 1))])), True)
        more = [(0, 0, 0, (0, 1)), (0, 1, 0, (0, 1))]
        self.assertIs(shows_apart(one, none, free_rule("a"), ((0, 1), ("", "a"), more)), False)

    def test_equations_that_hold_too_low(self):
        # With 4 instead of 2, what the pairs of 2 and of 1 pay would both be too little.
        one, none = (2, "a", ((((2, 0), (1, 0)),),)), (2, "a", (((0, 0),),))
        for worth in [(4, 1), (2, 1), (3, 1), (0, 1), (8, 1), (5, 1)]:
            thing = (worth, ("", "a"), [(0, 0, 0, worth)])
            self.assertIs(shows_apart(one, none, free_rule("a"), thing), worth == (4, 1))

    def test_kinds(self):
        contest = (MACHINE, OTHER, ("ab", ((0, 1), (0, None))))
        told_number, row, table = told(contest)
        self.assertIs(shows_apart(*contest, (told_number, row, table)), True)
        for thing in [[told_number, row, table], (told_number, row, tuple(table)), (told_number, row), (row, table),
                      (told_number, row, table, table), (told_number, row, dict(enumerate(table))),
                      (told_number, row, [list(part) for part in table]), (told_number, row, iter(table)),
                      (list(told_number), row, table), (told_number, list(row), table), (told_number, row, [table]),
                      (told_number, row, {part[:3]: part[3] for part in table}), listed((told_number, row)) + [table]]:
            self.assertIs(shows_apart(*contest, thing), False)
        for at, part in enumerate(table):
            for wrong in [(*part, 0), (*part, part[3]), (0, *part), part[:3]]:
                changed = table[:at] + [wrong] + table[at + 1:]
                self.assertIs(shows_apart(*contest, (told_number, row, changed)), False)
            for path in paths_of(part)[1:]:
                for wrong in of_other_kinds(part_at(part, path)):
                    if type(wrong) is not type(part_at(part, path)):
                        changed = table[:at] + [put(part, path, [wrong])] + table[at + 1:]
                        self.assertIs(shows_apart(*contest, (told_number, row, changed)), False)
                self.assertIs(shows_apart(
                    *contest, (told_number, row, table[:at] + [put(part, path, [])] + table[at + 1:])), False)
        for wrong in of_other_kinds(told_number) + [(True, 1), (told_number[0], True), (1.0, 1), (4, 1.0)]:
            if type(wrong) is not tuple or wrong != told_number:
                self.assertIs(shows_apart(*contest, (wrong, row, table)), False)

    def test_booleans(self):
        one, none = (2, "a", (((1, 1),), ((-2, 1),))), (2, "a", (((0, 0),),))
        thing = ((-1, 1), ("", "a"), [(0, 0, 0, (-1, 1)), (0, 1, 0, (-4, 1))])
        self.assertIs(shows_apart(one, none, free_rule("a"), thing), True)
        for at, part in [(0, (False, 0, 0, (-1, 1))), (0, (0, 0, False, (-1, 1))), (1, (0, True, 0, (-4, 1))),
                         (1, (0, 1, 0, (-4, True))), (0, (0, 0, 0, (-1, True)))]:
            table = list(thing[2])
            self.assertEqual(table[at], part)
            table[at] = part
            self.assertIs(shows_apart(one, none, free_rule("a"), (*thing[:2], table)), False)
        self.assertIs(shows_apart(one, none, free_rule("a"), ((-1, True), *thing[1:])), False)

    def test_any_things(self):
        contest = (MACHINE, OTHER, free_rule("ab"))
        told_number, row, table = told(contest)
        for thing in other_things():
            for whole in [thing, (thing, row, table), (told_number, thing, table), (told_number, row, thing),
                          (told_number, row, table[:-1] + [thing]), (told_number, row, [thing]),
                          (told_number, row, [(thing, 0, 0, (0, 1))]), (told_number, row, [(0, 0, 0, thing)])]:
                self.assertIs(shows_apart(*contest, whole), False)

    def test_whatever_its_length(self):
        one, other = wheel(2, 92), wheel(2, 95)
        table = [(0, at % 92, at % 95, (0, 1)) for at in range(8740)]
        self.assertRaises(TooGreat, apart, one, other, free_rule("a"))
        self.assertIs(shows_apart(one, other, free_rule("a"), ((0, 1), ("", "a"), table)), True)
        self.assertIs(shows_apart(one, other, free_rule("a"), ((0, 1), ("", "a"), table[:-1])), False)
        self.assertIs(shows_apart(one, other, free_rule("a"), ((0, 1), ("", "a"), table + [(0, 92, 0, (0, 1))])), False)

    def test_too_many_dicts_of_other(self):
        rule = ("abc", ((0, None, None),))
        self.assertIs(shows_apart(EXACT[300], EXACT[301], rule, ((0, 1), ("", "a"), [(0, 0, 0, (0, 1))])), False)
        self.assertIs(shows_apart(EXACT[301], EXACT[301], rule, ((0, 1), ("", "a"), [(0, 0, 0, (0, 1))])), False)

    def test_things_are_as_before(self):
        contest = (MACHINE, OTHER, free_rule("ab"))
        for thing in [told(contest), ((0, 1), ("", "a"), [[0, 0, 0, (0, 1)]]),
                      ((0, 1), ("", "a"), [(0, 0, 0, (0, 1))])]:
            before = copy.deepcopy(thing)
            shows_apart(*contest, thing)
            self.assertEqual(thing, before)


class SpanTest(unittest.TestCase):
    def check(self, machine, rule, word):
        """The told ends, both at rows of the rule that begin with the word and have these worths."""
        ends = span(machine, rule, word)
        self.assertEqual([type(ends), len(ends)] + [type(end) for end in ends], [tuple, 2, tuple, tuple])
        for told_number, row in ends:
            self.assertTrue(1 <= len(row[1]) <= 1500 and len(row[0]) <= 1500)
            self.assertTrue((row[0] + row[1] * (len(word) + 1)).startswith(word))
            self.assertIs(is_of(rule, row[0], ring=row[1]), True)
            self.assertEqual(told_number, number(plain_worth(led(machine), row)))
            self.assertEqual(told_number, worth_of(machine, row))
        return fraction(ends[0][0]), fraction(ends[1][0])

    def test_small(self):
        ends = span(ONE, free_rule("ab"), "a")
        self.assertEqual([end[0] for end in ends], [(1, 1), (4, 1)])
        self.assertEqual([end[0] for end in span(ONE, free_rule("ab"))], [(-2, 1), (4, 1)])
        self.assertEqual([end[0] for end in span(ONE, RULE)], [(0, 1), (0, 1)])

    def test_drawn_rows(self):
        source = series("spans")
        for one, other, rule in contests("spans", 120):
            for machine in [one, other]:
                for many in [0, 1, 2, 5, 12]:
                    word = word_of_rule(source, rule, many)
                    least, greatest = self.check(machine, rule, word)
                    self.assertLessEqual(least, greatest)
                    for row in rows_that_begin(source, rule, word, 6):
                        self.assertTrue(least <= plain_worth(led(machine), row) <= greatest)

    def test_the_ends_solve_their_equation(self):
        source = series("ends")
        for one, _, rule in contests("ends", 80):
            word = word_of_rule(source, rule, source.randint(0, 4))
            ends = self.check(one, rule, word)
            after = [self.check(one, rule, word + letter) for letter in one[1] if is_of(rule, word + letter)]
            self.assertEqual(ends, (min(least for least, _ in after), max(greatest for _, greatest in after)))

    def test_no_wider_than_the_spread(self):
        source = series("spread")
        for one, _, rule in contests("spread", 80):
            spread = max(pays_of(one)) - min(pays_of(one))
            word, width = "", Fraction(spread * one[0], one[0] - 1)
            for letter in word_of_rule(source, rule, 8):
                least, greatest = self.check(one, rule, word)
                self.assertLessEqual(greatest - least, width)
                self.assertLessEqual((greatest - least) * (one[0] - 1) * one[0] ** len(word), spread * one[0])
                word, width = word + letter, greatest - least

    def test_the_word_has_a_default(self):
        for machine in [MACHINE, led(MACHINE)]:
            self.assertEqual(span(machine, RULE), span(machine, RULE, ""))
            self.assertEqual(span(machine, RULE), span(machine, RULE, word=""))

    def test_words_that_are_not_of_the_rule(self):
        for word in ["a", "ba" * 100 + "a", "bb", "ab", "a" * 300]:
            self.assertRaises(NoWord, span, MACHINE, RULE, word)
        for word in ["", "b", "ba", "bab", "ba" * 150]:
            self.check(MACHINE, RULE, word)

    def test_lengths(self):
        source = series("lengths")
        rule = rule_of(source, "ab", 4)
        plain = (2, "ab", tuple([((source.randint(-9, 9), (at + 1) % 300), (source.randint(-9, 9), (at + 7) % 300))
                                 for at in range(300)]))
        self.check(plain, rule, word_of_rule(source, rule, 300))
        turning = ("a", tuple([((at + 1) % 4,) for at in range(4)]))
        # 4 states of the rule beside 297 states, all in one ring.
        ends = span(wheel(2, 297), turning, "a" * 300)
        self.assertEqual([len(end[1][1]) for end in ends], [1188, 1188])
        self.assertEqual([end[0] for end in ends], [(0, 1), (0, 1)])
        self.assertTrue(all(len(part) <= 1500 for end in ends for part in end[1]))
        self.assertRaises(NoWord, span, wheel(2, 297), turning, "a" * 301)

    def test_as_many_states_as_can_be(self):
        # By a the machine goes round 300 states, by b the rule goes round 4.
        plain = (2, "ab", tuple([((at % 7, (at + 1) % 300), (-at % 5, at)) for at in range(300)]))
        rule = ("ab", tuple([(at, (at + 1) % 4) for at in range(4)]))
        least, greatest = self.check(plain, rule, "ab" * 150)
        self.assertLess(least, greatest)

    def test_too_many_dicts(self):
        self.assertRaises(TooGreat, span, EXACT[301], free_rule("abc"))
        self.assertRaises(TooGreat, span, EXACT[301], ("abc", ((0, None, None),)), "a" * 300)
        self.assertRaises(NoWord, span, EXACT[301], ("abc", ((0, None, None),)), "b")
        self.check(EXACT[300], free_rule("abc"), "abc")

    def test_one_row_alone(self):
        ends = span(MACHINE, RULE, "b")
        self.assertEqual(ends[0][0], ends[1][0])
        self.assertEqual(ends[0][0], number(plain_worth(led(MACHINE), ("", "ba"))))

    def test_sums_along_the_word(self):
        source = series("sums")
        for _ in range(30):
            plain = plain_of(source)
            rule = free_rule(plain[1])
            word = word_of_rule(source, rule, source.randint(1, 9))
            total, state = sum_along(plain, word)
            least, greatest = self.check(plain, rule, word)
            rest = [plain_worth(plain, row, state) for row in rows_that_begin(source, rule, "", 5)]
            for worth in rest:
                self.assertTrue(least <= total + worth / plain[0] ** len(word) <= greatest)


if __name__ == "__main__":
    unittest.main()
