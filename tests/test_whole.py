"""What holds over the whole program, over drawn machines, rules, rows and words."""

import operator
import unittest

from laterless.errors import LaterError, TooGreat
from laterless.lacks import lacks_after, led, sum_after
from laterless.leads import levels_of, parted, shows_never
from laterless.least import least_of, unlike
from laterless.machines import free_rule, is_of
from laterless.races import Race, trial
from laterless.rows import worth_of
from laterless.spans import apart, span
from laterless.walks import Walk
from laterless.worths import Worth
from makers import machine_of, plain_of, row_of, rows_that_begin, rule_of, series, word_of, word_of_rule
from reckoning import number, pays_of
from slow import fraction, plain_worth, sum_along


def contests(name, many):
    """Machines with choices and plain ones, with a rule, for which nothing raises TooGreat."""
    source, found = series(name), []
    while len(found) < many:
        base, letters = source.choice([2, 2, 3, 9]), "abc"[:source.randint(1, 3)]
        pair = [
            plain_of(source, base, letters, source.randint(1, 4), 5) if source.random() < 0.4 else
            machine_of(source, base, letters, source.randint(1, 3), source.choice([1, 2, 5]))
            for _ in range(2)
        ]
        contest = (*pair, rule_of(source, letters, source.randint(1, 3)))
        try:
            levels_of(*contest, limit=400)
            apart(*contest, limit=100)
            led(pair[0], limit=40)
        except TooGreat:
            continue
        found.append(contest)
    return found


class FormulasTest(unittest.TestCase):
    """Each worth has the value of its formula, which is kept beside it as a function from rows to fractions."""

    def test_any_sequence_of_calls(self):
        source, refused, done = series("formulas"), 0, 0
        for _ in range(60):
            base, letters = source.choice([2, 3, 9]), "ab"[:source.randint(1, 2)]
            pool = [self.drawn(source, base, letters) for _ in range(3)]
            for _ in range(12):
                left, right = source.sample(pool, 2) if source.random() < 0.8 else [source.choice(pool)] * 2
                try:
                    made = self.step(source, left, right, letters)
                except LaterError:
                    refused += 1
                else:
                    done += 1
                    if made is not left:
                        pool[source.randrange(len(pool))] = made
                for worth, due in pool:
                    row = row_of(source, letters, 3)
                    self.assertEqual(fraction(worth(row)), due[0](row))
                    self.assertEqual(led(worth.plain()), worth.plain())
        self.assertTrue(refused > 50 and done > 300)

    def drawn(self, source, base, letters):
        machine = machine_of(source, base, letters, 2, 2) if source.random() < 0.3 else plain_of(
            source, base, letters, source.randint(1, 3), 2)
        try:
            plain = led(machine, limit=20)
        except TooGreat:
            return self.drawn(source, base, letters)
        return (Worth(machine), [lambda row: plain_worth(plain, row)])

    def step(self, source, left, right, letters):
        """One call, which may be refused: a new worth with its formula, or left, that was changed with its formula."""
        (a, due), (b, other) = left, right
        x, y = due[0], other[0]
        k, word = source.choice([0, 1, -2, 5]), word_of(source, letters, source.randint(0, 3))
        base = a.base
        operation, in_place, value, formula = source.choice([
            (operator.add, operator.iadd, b, lambda row: x(row) + y(row)),
            (operator.sub, operator.isub, b, lambda row: x(row) - y(row)),
            (operator.or_, operator.ior, b, lambda row: max(x(row), y(row))),
            (operator.and_, operator.iand, b, lambda row: min(x(row), y(row))),
            (operator.add, operator.iadd, k, lambda row: x(row) + k),
            (operator.sub, operator.isub, k, lambda row: x(row) - k),
            (operator.mul, operator.imul, k, lambda row: k * x(row)),
            (operator.rshift, operator.irshift, word,
             lambda row: base ** len(word) * x((word + row[0], row[1]))),
            # These are refused.
            (operator.add, operator.iadd, source.choice([None, 10 ** 21, "a", True]), None),
            (operator.mul, operator.imul, source.choice([b, 21, 10 ** 30, None]), None),
            (operator.rshift, operator.irshift, source.choice(["z", 3, b, letters[0] * 301]), None),
            (operator.or_, operator.ior,
             source.choice([3, None, Worth((7, letters, (((0, 0),) * len(letters),)))]), None),
        ])
        if source.random() < 0.5:
            return operation(a, value), [formula]
        changed = in_place(a, value)
        self.assertIs(changed, a)
        due[0] = formula
        return left


class TwoThingsTest(unittest.TestCase):
    def test_exactly_one_of_two(self):
        found = {True: 0, False: 0}
        for contest in contests("two things", 150):
            levels, word = levels_of(*contest), parted(*contest)
            won = any(part[2] == () for part in levels[-1])
            self.assertIs(word is not None, won)
            together = [part for level in levels for part in level]
            self.assertIs(shows_never(*contest, together), not won)
            # So also the greatest difference is above 0.
            self.assertIs(fraction(apart(*contest)[0]) > 0, won)
            found[won] += 1
        self.assertGreater(min(found.values()), 40)

    def test_won_words(self):
        source = series("won words")
        for one, other, rule in contests("won words", 80):
            first = parted(one, other, rule)
            race = Race(one, other, rule)
            if first is None:
                self.assertEqual(race.state(), "never")
                continue
            for letter in first:
                self.assertNotEqual(race.state(), "won")
                race.read(letter)
            self.assertEqual(race.state(), "won")
            for row in rows_that_begin(source, rule, first, 6):
                self.assertGreater(fraction(worth_of(one, row)), fraction(worth_of(other, row)))
            trial(race, ["-", [], "-"] if len(first) > 1 else [])
            self.assertEqual(race.state(), "won")


class LedTest(unittest.TestCase):
    def test_worths_and_sums(self):
        source = series("led")
        for one, other, rule in contests("led", 80):
            plain = led(one)
            for row in rows_that_begin(source, rule, "", 5):
                self.assertEqual(worth_of(plain, row), worth_of(one, row))
                self.assertEqual(fraction(worth_of(one, row)), plain_worth(plain, row))
            word = word_of(source, one[1], 8)
            self.assertEqual(sum_after(one, word), number(sum_along(plain, word)[0]))
            self.assertEqual(sum_after(plain, word), sum_after(one, word))
            self.assertIs(unlike(plain, led(plain)), None)
            self.assertEqual(least_of(plain), least_of(led(plain)))


class RunnersTest(unittest.TestCase):
    def test_as_new_ones_that_have_read_their_word(self):
        source = series("runners")
        for one, other, rule in contests("runners", 40):
            walk, race = Walk(one, rule), Race(one, other, rule)
            for _ in range(12):
                for runner in [walk, race]:
                    self.disturb(source, runner, one[1])
                new_walk, new_race = Walk(one, rule), Race(one, other, rule)
                for new, old in [(new_walk, walk), (new_race, race)]:
                    for letter in old.word():
                        new.read(letter)
                self.assertEqual([walk.word(), walk.lacks(), walk.total(), walk.span(), len(walk)],
                                 [new_walk.word(), new_walk.lacks(), new_walk.total(), new_walk.span(), len(new_walk)])
                self.assertEqual([race.word(), race.standings(), race.state(), len(race)],
                                 [new_race.word(), new_race.standings(), new_race.state(), len(new_race)])
                self.assertEqual(walk.lacks(), lacks_after(one, walk.word()))
                self.assertEqual(walk.span(), span(one, rule, walk.word()))

    def disturb(self, source, runner, letters):
        """Some calls, many of which raise errors."""
        calls = [
            lambda: runner.read(source.choice(letters)), lambda: runner.read(source.choice(letters)), runner.undo,
            lambda: runner.read("z"), lambda: trial(runner, ["-", [letters[0], "-"], "z"]),
            lambda: trial(runner, [[letters[-1]], letters[0]]), lambda: self.stretch(source, runner, letters),
        ]
        for _ in range(3):
            try:
                source.choice(calls)()
            except LaterError:
                continue

    def stretch(self, source, runner, letters):
        before = runner.word()
        try:
            with runner:
                runner.read(source.choice(letters))
                runner.undo()
                runner.undo()
        finally:
            self.assertEqual(runner.word(), before)

    def test_spans(self):
        source = series("whole spans")
        for one, _, rule in contests("whole spans", 60):
            walk, spread = Walk(one, rule), max(pays_of(one)) - min(pays_of(one))
            ends = None
            for letter in word_of_rule(source, rule, 7):
                later = [fraction(end[0]) for end in walk.span()]
                self.assertTrue(ends is None or ends[0] <= later[0] <= later[1] <= ends[1])
                self.assertLessEqual((later[1] - later[0]) * (one[0] - 1) * one[0] ** len(walk), spread * one[0])
                ends = later
                walk.read(letter)
                self.assertIs(is_of(rule, walk.word()), True)


class WithinTest(unittest.TestCase):
    def test_within_and_parted(self):
        for one, other, _ in contests("within", 80):
            a, b, free = Worth(one), Worth(other), free_rule(one[1])
            try:
                never = parted(one, other, free) is None
            except TooGreat:
                continue
            self.assertIs(a.within(b), never)
            self.assertIs((a | b) == b, never)


if __name__ == "__main__":
    unittest.main()
