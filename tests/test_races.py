"""Races: standings along a word and what they mean; and trials of walks and races."""

import unittest

from laterless.errors import (
    NoLetter, NoLimit, NoMachine, NoMatch, NoRule, NoRunner, NoThings, NoUndo, NoWord, TooGreat,
)
from laterless.lacks import led
from laterless.leads import levels_of, parted
from laterless.machines import free_rule, is_of
from laterless.races import Race, trial
from laterless.rows import worth_of
from laterless.spans import apart
from laterless.walks import Walk
from laterless.worths import Worth
from makers import EXACT, MACHINE, TIES, machine_of, rows_that_begin, series, step, wheel, word_of_rule
from parts import Agreeing, Broken, listed, other_things
from reckoning import standings, words
from slow import fraction
from test_leads import told_contests
from test_never import successors

FIRST = (0, 0, ((0, 0),))
ONE, OTHER = (2, "ab", (((2, 0), (0, 0)),)), (2, "ab", (((1, 0), (1, 0)),))
FREE = free_rule("ab")
RULE = ("ab", ((0, 1), (0, None)))
MANY = (2, "ab", ((((1, 1), (0, 1)), ((1, 0),)), (((0, 1),), ((2, 0),))))


def told(race):
    return [race.word(), len(race), race.standings(), state_of(race)]


def state_of(race):
    try:
        return race.state()
    except TooGreat:
        return TooGreat


def read(race, word):
    for letter in word:
        race.read(letter)
    return race


def reachable(contest, found, most=300):
    """All standings that can be reached from these ones, those without leads being followed by none; None if many."""
    found = list(found)
    for standing in found:
        if len(found) > most:
            return None
        if standing[2]:
            found.extend(sorted(successors(*contest, standing) - set(found)))
    return found


class Passing(Exception):
    """An error of the tests' own."""


class ReadTest(unittest.TestCase):
    def test_small(self):
        race = Race(ONE, OTHER, FREE)
        self.assertEqual(told(race), ["", 0, [FIRST], "open"])
        self.assertIs(race.read("a"), None)
        self.assertEqual(told(race), ["a", 1, [(0, 0, ((0, 2),))], "open"])
        race.read("a")
        self.assertEqual(told(race), ["aa", 2, [(0, 0, ())], "won"])
        race.read("b")
        self.assertEqual(told(race), ["aab", 3, [(0, 0, ())], "won"])
        self.assertIs(race.undo(), None)
        race.undo()
        race.undo()
        race.read("b")
        self.assertEqual(told(race), ["b", 1, [], "never"])

    def test_against_the_ways(self):
        for (one, other, rule), _ in told_contests("races", 90):
            for word in words(one[1], 3):
                race = Race(one, other, rule)
                if not is_of(rule, word):
                    self.assertRaises(NoLetter, read, race, word)
                else:
                    found = read(race, word).standings()
                    self.assertEqual(found, sorted(standings(one, other, rule, word)))
                    self.assertEqual([type(found)] + [type(part) for part in found], [list] + [tuple] * len(found))

    def test_any_calls(self):
        source = series("race calls")
        for (one, other, rule), _ in told_contests("race calls", 30):
            race, word = Race(one, other, rule), ""
            for _ in range(25):
                choice = source.random()
                if choice < 0.5:
                    letter = source.choice(one[1])
                    if is_of(rule, word + letter):
                        race.read(letter)
                        word += letter
                    else:
                        self.assertRaises(NoLetter, race.read, letter)
                elif word:
                    race.undo()
                    word = word[:-1]
                else:
                    self.assertRaises(NoUndo, race.undo)
                self.assertEqual(told(race), told(read(Race(one, other, rule), word)))

    def test_letters(self):
        race = Race(MACHINE, MANY, RULE)
        race.read("b")
        before = told(race)
        for thing in other_things() + ["b", "c", "", "aa", ("a",), ["a"], b"a"]:
            self.assertRaises(NoLetter, race.read, thing)
        self.assertEqual(told(race), before)

    def test_the_letter_beyond_300(self):
        race = Race(ONE, ONE, ("ab", ((0, None),)))
        for _ in range(300):
            race.read("a")
        for letter, error in [("a", NoWord), ("b", NoLetter), ("", NoLetter), (None, NoLetter)]:
            self.assertRaises(error, race.read, letter)
        self.assertEqual([len(race), race.word()], [300, "a" * 300])
        race.undo()
        race.read("a")

    def test_nothing_to_take_back(self):
        race = Race(ONE, OTHER, FREE)
        self.assertRaises(NoUndo, race.undo)
        self.assertEqual(told(race), ["", 0, [FIRST], "open"])

    def test_worths(self):
        a, b = Worth(MACHINE), Worth(MANY)
        race, kept = Race(a, b, FREE), (a.plain(), b.plain())
        a += b
        b *= 2
        read(race, "ab")
        self.assertEqual(told(race), told(read(Race(*kept, FREE), "ab")))
        self.assertEqual(told(Race(a, MACHINE, FREE)), told(Race(a.plain(), MACHINE, FREE)))
        self.assertEqual(told(Race(MACHINE, a, FREE)), told(Race(MACHINE, a.plain(), FREE)))
        self.assertEqual(told(Race(a, a, FREE)), told(Race(a.plain(), a.plain(), FREE)))

    def test_errors_of_the_constructor(self):
        for thing in other_things() + [listed(ONE), "ab", [ONE], Walk(ONE, FREE)]:
            self.assertRaises(NoMachine, Race, thing, None, None, limit=0)
            self.assertRaises(NoMachine, Race, ONE, thing, None, limit=0)
        for machine in [(3, *ONE[1:]), TIES, EXACT[301], Worth(TIES), (2, "ac", ONE[2])]:
            self.assertRaises(NoMatch, Race, ONE, machine, None, limit=0)
            self.assertRaises(NoMatch, Race, Worth(ONE), machine, FREE)
        for thing in other_things() + [free_rule("a"), free_rule("abc"), listed(RULE)]:
            self.assertRaises(NoRule, Race, ONE, OTHER, thing, limit=0)
        for thing in other_things() + [0, -1, 2001, 10 ** 60, "3", True]:
            if not (type(thing) is int and 1 <= thing <= 2000):
                self.assertRaises(NoLimit, Race, ONE, OTHER, FREE, limit=thing)
        self.assertRaises(TypeError, Race, ONE, OTHER, FREE, 2000)

    def test_arguments_by_name(self):
        race = Race(limit=7, rule=FREE, other=OTHER, one=ONE)
        race.read(letter="a")
        self.assertEqual(told(race), told(read(Race(ONE, OTHER, FREE), "a")))


class StateTest(unittest.TestCase):
    def test_won_after_won_words_alone(self):
        won = 0
        for (one, other, rule), _ in told_contests("won", 120):
            first = parted(one, other, rule)
            prefixes = {}
            for word in words(one[1], 4 if len(one[1]) < 3 else 3):
                if not is_of(rule, word):
                    continue
                race = read(Race(one, other, rule), word)
                is_won = any(part[2] == () for part in standings(one, other, rule, word))
                prefixes[word] = is_won or prefixes.get(word[:-1], False)
                state = state_of(race)
                self.assertIs(state == "won", prefixes[word])
                if state == "won":
                    won += 1
                    self.assertIsNot(first, None)
                    if len(word) < 4 and len(rule[1]) == 1:
                        self.assertLess(fraction(apart(other, one, self.only(rule, word))[0]), 0)
        self.assertGreater(won, 60)

    def only(self, rule, word):
        """A rule of the rows that begin with the word, if the rule has one state."""
        letters = rule[0]
        states = [tuple([at + 1 if letter == one else None for one in letters]) for at, letter in enumerate(word)]
        return (letters, tuple(states + [tuple([None if to is None else len(word) for to in rule[1][0]])]))

    def test_the_three_states(self):
        source, found = series("three"), {}
        for (one, other, rule), levels in told_contests("three", 150):
            race = read(Race(one, other, rule), word_of_rule(source, rule, source.randint(0, 3)))
            state = state_of(race)
            found[state] = found.get(state, 0) + 1
            if state == "never":
                # No row that begins so is one with a greater worth, if no standing is behind an earlier vain lead.
                self.assertFalse(any(part[2] == () for part in race.standings()))
                for _ in range(6):
                    race.read(step(source, rule, self.place(rule, race.word()))[0])
                    self.assertEqual(race.state(), "never")
            elif state == "open":
                word = self.won_word(one, other, rule, race.word())
                self.assertTrue(read(Race(one, other, rule), word).state() == "won")
                for row in rows_that_begin(source, rule, word, 3):
                    self.assertGreater(fraction(worth_of(one, row)), fraction(worth_of(other, row)))
        self.assertTrue(min(found[state] for state in ["won", "never", "open"]) > 5)

    def place(self, rule, word):
        state = 0
        for letter in word:
            state = rule[1][state][rule[0].index(letter)]
        return state

    def won_word(self, one, other, rule, word):
        """A word that goes on from this one and is won, by all words level by level."""
        seen, level = set(), [word]
        while level:
            later = []
            for text in level:
                race = read(Race(one, other, rule), text)
                if any(part[2] == () for part in race.standings()):
                    return text
                key = tuple(race.standings())
                if key not in seen:
                    seen.add(key)
                    later.extend([text + letter for letter in one[1] if is_of(rule, text + letter)])
            level = later
        return None

    def test_state_at_the_beginning(self):
        for (one, other, rule), levels in told_contests("beginning", 120):
            state = state_of(Race(one, other, rule))
            if parted(one, other, rule) is None:
                # All levels together are what can be reached.
                self.assertEqual(state, "never")
                many = sum([len(level) for level in levels])
                self.assertEqual(Race(one, other, rule, limit=many).state(), "never")
                if many > 1:
                    self.assertRaises(TooGreat, Race(one, other, rule, limit=many - 1).state)
            elif state is not TooGreat:
                self.assertEqual(state, "open")

    def test_limits_of_state(self):
        one, other = wheel(2, 125), wheel(2, 16)
        self.assertEqual(Race(one, other, free_rule("a")).state(), "never")
        self.assertEqual(Race(one, other, free_rule("a"), limit=2000).state(), "never")
        self.assertRaises(TooGreat, Race(one, other, free_rule("a"), limit=1999).state)
        race = Race(wheel(2, 69), wheel(2, 29), free_rule("a"))
        for _ in range(20):
            self.assertRaises(TooGreat, race.state)
            race.read("a")
        self.assertEqual([race.word(), len(race.standings())], ["a" * 20, 1])

    def test_won_is_told_whatever_can_be_reached(self):
        # After a b the first way has won, though the other one goes round many standings.
        turn = wheel(2, 69)[2]
        one = (2, "ab", tuple([((pair, pair)) for (pair,) in turn]))
        one = (2, "ab", ((turn[0][0], (2, 0)),) + one[2][1:])
        other = (2, "ab", tuple([((pair, pair)) for (pair,) in wheel(2, 29)[2]]))
        race = Race(one, other, FREE)
        self.assertRaises(TooGreat, race.state)
        race.read("b")
        race.read("b")
        race.read("b")
        race.read("b")
        self.assertEqual(race.state(), "won")

    def test_standings_without_leads_are_not_followed(self):
        # From the first standing a leads to one without leads, b to none; those that a standing without leads leads to
        # would be two more.
        one = (3, "ab", (((9, 1), (-9, 0)), ((9, 2), (9, 2)), ((9, 0), (9, 0))))
        other = (3, "ab", (((0, 0), (0, 0)),))
        self.assertEqual(levels_of(one, other, FREE), [[FIRST], [(0, 1, ())]])
        self.assertEqual(Race(one, other, FREE, limit=2).state(), "open")
        self.assertRaises(TooGreat, Race(one, other, FREE, limit=1).state)
        race = Race(one, other, FREE, limit=1)
        race.read("a")
        self.assertEqual(race.state(), "won")
        race.read("a")
        self.assertEqual([race.state(), race.standings()], ["won", [(0, 2, ())]])

    def test_all_that_can_be_reached(self):
        source, found = series("reached"), {"open": 0, "never": 0}
        for contest, _ in told_contests("reached", 150):
            word = word_of_rule(source, contest[2], source.randint(0, 3))
            race = read(Race(*contest), word)
            reached = reachable(contest, race.standings())
            if reached is None or any(part[2] == () for part in race.standings()):
                continue
            right = "open" if any(part[2] == () for part in reached) else "never"
            found[right] += 1
            self.assertEqual(race.state(), right)
            for limit in {len(reached), len(reached) - 1} - {0, -1}:
                try:
                    small = read(Race(*contest, limit=limit), word)
                except TooGreat:
                    continue
                if limit == len(reached):
                    self.assertEqual(small.state(), right)
                else:
                    self.assertRaises(TooGreat, small.state)
                    self.assertEqual([small.word(), small.standings()], [word, race.standings()])
        self.assertGreater(min(found.values()), 20)

    def test_too_many_standings_to_read(self):
        source, met = series("to read"), 0
        for _ in range(60):
            one, other = machine_of(source, 2, "ab", 4, 5), machine_of(source, 2, "ab", 2, 5)
            race = Race(one, other, FREE)
            for letter in "abab":
                before = race.word()
                try:
                    race.read(letter)
                except TooGreat:
                    break
                many = len(race.standings())
                if many > 1:
                    met += 1
                    small = self.read_as_far(one, other, before, many - 1)
                    if small is not None:
                        kept = [small.word(), small.standings()]
                        self.assertRaises(TooGreat, small.read, letter)
                        self.assertEqual([small.word(), small.standings()], kept)
                        self.assertEqual(len(small), len(before))
                    enough = self.read_as_far(one, other, before, many)
                    if enough is not None:
                        enough.read(letter)
                        self.assertEqual(enough.standings(), race.standings())
        self.assertGreater(met, 60)

    def read_as_far(self, one, other, word, limit):
        """A race with this limit that has read the word, or None."""
        try:
            return read(Race(one, other, FREE, limit=limit), word)
        except TooGreat:
            return None

    def test_errors_of_letters_ahead_of_too_great(self):
        one = (2, "ab", ((((1, 0), (0, 1)), ((0, 0),)), (((0, 0),), ((0, 1),))))
        race = Race(one, (2, "ab", (((0, 0), (0, 0)),)), ("ab", ((0, None),)), limit=1)
        self.assertRaises(NoLetter, race.read, "b")
        self.assertRaises(NoLetter, race.read, 3)
        self.assertRaises(TooGreat, race.read, "a")
        self.assertEqual([race.word(), race.standings()], ["", [FIRST]])

    def test_new_lists(self):
        race = read(Race(MACHINE, MANY, FREE), "a")
        before = race.standings()
        race.standings().clear()
        self.assertEqual(race.standings(), before)
        self.assertIsNot(race.standings(), race.standings())
        Race(MACHINE, MANY, FREE).standings().clear()
        self.assertEqual(Race(MACHINE, MANY, FREE).standings(), [FIRST])


class StretchTest(unittest.TestCase):
    def test_as_it_was(self):
        race = read(Race(ONE, OTHER, FREE), "a")
        before = told(race)
        with race as inner:
            self.assertIs(inner, race)
            race.undo()
            race.read("b")
            with race:
                race.undo()
                self.assertRaises(NoUndo, race.undo)
                read(race, "aaaa")
            self.assertEqual([race.word(), race.state()], ["b", "never"])
        self.assertEqual(told(race), before)
        race.undo()
        self.assertRaises(NoUndo, race.undo)

    def test_errors_go_through(self):
        race = read(Race(ONE, OTHER, FREE), "ab")
        before = told(race)
        with self.assertRaises(Passing):
            with race:
                race.undo()
                with race:
                    race.undo()
                    raise Passing
        self.assertEqual(told(race), before)
        with self.assertRaises(NoLetter):
            with race:
                race.read("a")
                race.read("c")
        self.assertEqual(told(race), before)


class TrialTest(unittest.TestCase):
    def runners(self):
        return [Walk(MACHINE, RULE), Walk(led(MACHINE), FREE), Race(ONE, OTHER, FREE), Race(MACHINE, MANY, RULE)]

    def tell(self, runner):
        return runner.total() if isinstance(runner, Walk) else runner.state()

    def slow(self, runner, things):
        """What trial returns, by what was read and by taking back all of it."""
        word, answers = runner.word(), []
        for part in things:
            if isinstance(part, list):
                answers.append(self.slow(runner, part))
            else:
                runner.undo() if part == "-" else runner.read(part)
                answers.append(self.tell(runner))
        while runner.word() and not word.startswith(runner.word()):
            runner.undo()
        for letter in word[len(runner.word()):]:
            runner.read(letter)
        return answers

    def test_small(self):
        race = Race(ONE, OTHER, FREE)
        self.assertEqual([trial(race, ["a", ["b", "a"], "a", "-"]), trial(race, ["b"]), race.state(), race.standings()],
                         [["open", ["open", "won"], "won", "open"], ["never"], "open", [FIRST]])
        walk = Walk(MACHINE, FREE)
        walk.read("a")
        self.assertEqual(trial(walk, ["b", ["b", "-"]]), [(1, 1), [(5, 4), (1, 1)]])
        self.assertEqual([walk.word(), len(walk)], ["a", 1])

    def test_drawn_things(self):
        source = series("things")
        for _ in range(150):
            for runner in self.runners():
                for letter in source.choices("a", k=source.randint(0, 3)):
                    runner.read(letter)
                before = runner.word()
                things = self.things(source, 1)
                try:
                    right = self.slow(runner, things)
                except (NoLetter, NoUndo) as error:
                    self.restored(runner, before)
                    self.assertRaises(type(error), trial, runner, things)
                else:
                    self.assertEqual(runner.word(), before)
                    self.assertEqual(trial(runner, things), right)
                self.assertEqual(runner.word(), before)
                for _ in before:
                    runner.undo()
                self.assertRaises(NoUndo, runner.undo)

    def restored(self, runner, word):
        while len(runner):
            runner.undo()
        for letter in word:
            runner.read(letter)

    def things(self, source, deep):
        found = []
        for _ in range(source.randint(0, 4)):
            if source.random() < 0.3 and deep < 5:
                found.append(self.things(source, deep + 1))
            else:
                found.append(source.choice(["a", "a", "a", "b", "-"]))
        return found

    def test_nested_five_deep(self):
        for runner in self.runners():
            five = ["a", ["a", ["a", ["a", ["a", "-"], "-"]]]]
            right = self.slow(runner, five)
            self.assertEqual(trial(runner, five), right)
            self.assertEqual(trial(runner, [[[[[]]]]]), [[[[[]]]]])
            for deeper in [[[[[[[]]]]]], [[[[[["a"]]]]]], ["a", ["a", ["a", ["a", ["a", []]]]]], ["c", [[[[[]]]]]],
                           [[[[[[[[]]]]]]]], ["-", [], [[]], [[[[["a"], []]]]]], ["-", [[[["a", [[]]]]]]]]:
                self.assertRaises(NoThings, trial, runner, deeper)

    def test_things_that_are_none(self):
        for runner in self.runners():
            before = runner.word()
            for thing in other_things() + ["ab", "a", ("a",), {"a": 1}, [("a",)], ["a", None], ["a", 1], ["a", b"a"],
                                           ["a", ["a", ("a",)]], [["a"], True], ["a", {"a": 1}], [Broken()],
                                           [Agreeing()], ["c", None], ["-", ["-", None]]]:
                if not (type(thing) is list and len(thing) == 0) and repr(thing) != "[[]]":
                    self.assertRaises(NoThings, trial, runner, thing)
            self.assertEqual(runner.word(), before)
            self.assertEqual(trial(runner, []), [])
            self.assertEqual(trial(runner, [[]]), [[]])

    def test_no_runners(self):
        for thing in other_things() + [MACHINE, Worth(MACHINE), Walk, Race, [Walk(MACHINE, FREE)], "ab"]:
            self.assertRaises(NoRunner, trial, thing, ["a"])
            self.assertRaises(NoRunner, trial, thing, None)

    def test_errors_in_turn(self):
        for runner in self.runners():
            runner.read("a")
            for things, error in [
                (["c"], NoLetter), (["a", ""], NoLetter), (["a", "aa"], NoLetter), (["-", "-"], NoUndo),
                (["a", ["-", "-", "-"]], NoUndo), (["A"], NoLetter), (["--"], NoLetter), (["-", "-", "c"], NoUndo),
                (["a", ["c", "-"], "-", "-", "-"], NoLetter), ([["-"], ["-", "-"]], NoUndo), (["a"] * 300, NoWord),
                (["a", [["-", ["a", "c"]]]], NoLetter), (["c", "-", "-"], NoLetter), ([[[[["-", "-"]]]]], NoUndo),
            ]:
                self.assertRaises(error, trial, runner, things)
                self.assertEqual(runner.word(), "a")
            runner.undo()
            self.assertRaises(NoUndo, runner.undo)

    def test_too_great(self):
        race = Race(wheel(2, 69), wheel(2, 29), free_rule("a"))
        race.read("a")
        self.assertRaises(TooGreat, trial, race, ["a"])
        self.assertRaises(TooGreat, trial, race, [[["a", "c"]]])
        self.assertRaises(NoLetter, trial, race, ["c", "a"])
        self.assertEqual(race.word(), "a")
        one = (2, "ab", ((((1, 0), (0, 1)), ((0, 0),)), (((0, 0),), ((0, 1),))))
        race = Race(one, (2, "ab", (((0, 0), (0, 0)),)), FREE, limit=1)
        self.assertRaises(TooGreat, trial, race, [["a"]])
        self.assertEqual([race.word(), race.standings()], ["", [FIRST]])
        walk = Walk(EXACT[301], free_rule("abc"))
        self.assertEqual(len(trial(walk, ["a", "b", "-"])), 3)

    def test_in_a_stretch(self):
        walk = Walk(MACHINE, FREE)
        with walk:
            walk.read("a")
            self.assertEqual(trial(walk, ["-", "b"]), [(0, 1), (1, 1)])
            self.assertEqual(walk.word(), "a")
        self.assertEqual(walk.word(), "")

    def test_all_lists_are_new(self):
        for runner in self.runners():
            things = ["a", ["a"], ["a"], []]
            first, second = trial(runner, things), trial(runner, things)
            self.assertEqual(first, second)
            parts = [part for answer in [first, second] for part in [answer] + answer if isinstance(part, list)]
            self.assertEqual(len({id(part) for part in parts}), len(parts))
            self.assertEqual(things, ["a", ["a"], ["a"], []])
            first[1].clear()
            self.assertEqual(trial(runner, things), second)
            twice = ["a"]
            answer = trial(runner, [twice, twice])
            self.assertIsNot(answer[0], answer[1])
            self.assertEqual(twice, ["a"])

    def test_many_things(self):
        walk = Walk(MACHINE, FREE)
        self.assertEqual(trial(walk, ["a", "-"] * 4500), [(1, 1), (0, 1)] * 4500)
        race = Race(ONE, OTHER, FREE)
        self.assertEqual(trial(race, ["b", "-"] * 4500), ["never", "open"] * 4500)

    def test_arguments_by_name(self):
        self.assertEqual(trial(things=["a"], runner=Walk(MACHINE, FREE)), [(1, 1)])


if __name__ == "__main__":
    unittest.main()
