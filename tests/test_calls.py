"""What holds for all functions over machines: errors of arguments in their order, and answers that are new."""

import copy
import itertools
import unittest

from laterless.errors import (
    HasRow, LaterError, NoArena, NoLimit, NoMachine, NoMatch, NoNumber, NoPlain, NoRow, NoRule, NoState, NoWord,
    TooGreat,
)
from laterless.games import plan_of, shows_game, values_of
from laterless.lacks import lacks_after, lacks_of, led, shows_led, sum_after
from laterless.leads import levels_of, parted, shows_levels, shows_never
from laterless.least import least_of, like_by, same_table, shows_same, unlike
from laterless.lefts import bars_of, row_with, shows_none
from laterless.machines import free_rule
from laterless.rows import best_way, shows_way, shows_worth, worth_of, worth_table
from laterless.spans import apart, apart_table, shows_apart, span
from makers import EXACT, MACHINE, TIES, machine_of, plain_of, rule_of, series, wheel
from parts import Agreeing, Broken, listed, other_things

PLAIN = led(MACHINE)
OTHER = (2, "ab", ((((1, 1), (0, 1)), ((1, 0),)), (((0, 1),), ((2, 0),))))
RULE = ("ab", ((0, 1), (0, None)))
ROW = ("ba", "ab")
WHEELS = (wheel(2, 69), wheel(2, 29), free_rule("a"))
# The same worth for every row: state 2 pays 6 more, and each step to it 3 less.
TWIN = (2, "ab", (((1, 1), (1, 0)), ((-1, 2), (0, 0)), ((5, 2), (6, 0))))
ARENA = (2, (("most", ((1, 1), (0, 0))), ("least", ((0, 0), (3, 1)))))
# There is no row of this rule with this number, and there are 4 places.
SEARCH = ((2, "ab", (((0, 0), (1, 0)),)), ("ab", ((0, None),)), (1, 4))

# Functions with right arguments, in their order; those behind None are keywords alone.
CALLS = {
    worth_of: {"machine": MACHINE, "row": ROW},
    best_way: {"machine": MACHINE, "row": ROW},
    shows_way: {"machine": MACHINE, "row": ROW, "thing": best_way(MACHINE, ROW)},
    worth_table: {"machine": MACHINE, "row": ROW},
    shows_worth: {"machine": MACHINE, "row": ROW, "thing": worth_table(MACHINE, ROW)},
    lacks_after: {"machine": MACHINE, "word": "aba"},
    sum_after: {"machine": MACHINE, "word": "aba"},
    led: {"machine": MACHINE, "limit": 3},
    lacks_of: {"machine": MACHINE, "limit": 3},
    shows_led: {"machine": MACHINE, "thing": (led(MACHINE), lacks_of(MACHINE))},
    parted: {"one": MACHINE, "other": OTHER, "rule": RULE, "limit": 50},
    levels_of: {"one": MACHINE, "other": OTHER, "rule": RULE, "limit": 50},
    shows_levels: {"one": MACHINE, "other": OTHER, "rule": RULE, "thing": levels_of(MACHINE, OTHER, RULE)},
    shows_never: {"one": MACHINE, "other": OTHER, "rule": RULE, "thing": [(0, 0, ((0, 0),))]},
    apart: {"one": MACHINE, "other": OTHER, "rule": RULE, "limit": 50},
    apart_table: {"one": MACHINE, "other": OTHER, "rule": RULE, "limit": 50},
    shows_apart: {"one": MACHINE, "other": OTHER, "rule": RULE,
                  "thing": (*apart(MACHINE, OTHER, RULE), apart_table(MACHINE, OTHER, RULE))},
    span: {"machine": MACHINE, "rule": RULE, "word": "aba"},
    like_by: {"plain": PLAIN, "p": 1, "q": 2},
    least_of: {"plain": PLAIN},
    unlike: {"plain": PLAIN, "other": TWIN},
    same_table: {"plain": PLAIN, "other": TWIN, "limit": 50},
    shows_same: {"plain": PLAIN, "other": TWIN, "thing": same_table(PLAIN, TWIN)},
    row_with: dict(zip(["plain", "rule", "number", "limit"], [*SEARCH, 50])),
    bars_of: dict(zip(["plain", "rule", "number", "limit"], [*SEARCH, 50])),
    shows_none: dict(zip(["plain", "rule", "number", "thing"], [*SEARCH, bars_of(*SEARCH)])),
    values_of: {"arena": ARENA},
    plan_of: {"arena": ARENA},
    shows_game: {"arena": ARENA, "thing": (values_of(ARENA), plan_of(ARENA))},
}

NO_MACHINES = [
    listed(MACHINE), list(MACHINE), MACHINE + (0,), MACHINE[:2], (1,) + MACHINE[1:], (10,) + MACHINE[1:],
    (True,) + MACHINE[1:], (2, "ba") + MACHINE[2:], (2, "a") + MACHINE[2:], (2, "abc") + MACHINE[2:], (2, "ab", ()),
    (2, "ab", MACHINE[2] * 3), (2, "ab", MACHINE[2][:1]), (2, "ab", (((21, 0), (1, 0)),) * 301),
    (2, "ab", MACHINE[2] + (1,)), (2, "a", ((((21, 0),),),)), (2, "a", ((((0, 0), (0, 0)),),)),
    (2, "a", (((10 ** 30 + 1, 0),),)), (2, "a", (((0, 1),),)), (2, "a", ((((0, True),),),)), (2, "a", (((False, 0),),)),
    (2, "ab", (((0, 0), ((0, 0),)),)), RULE, ROW, "ab", (MACHINE,),
]
NO_RULES = [
    ("ab", ((0, 2), (0, None))), ("ab", ((0, 1), (None, None))), listed(RULE), ["ab", RULE[1]], RULE + (1,), ("ab", ()),
    ("ab", ((0, 0),) * 5), ("ab", ((0, False),)), ("ba", RULE[1]), MACHINE, PLAIN, "ab", ROW,
    # Rules, but for other letters.
    free_rule("a"), free_rule("b"), free_rule("abc"), free_rule("ac"), ("xy", RULE[1]),
]
NO_ROWS = [
    ["ba", "ab"], ("ba",), ("ba", "ab", ""), ("ba", ""), ("", ""), ("ba", "c"), ("c", "ab"), ("A", "ab"), ("b a", "a"),
    ("a" * 1501, "a"), ("a", "a" * 1501), ("a" * 1501, "b" * 1501), ("ba", b"ab"), (b"ba", "ab"), (("b", "a"), "ab"),
    ("ba", ("a", "b")), ("ba", ["a", "b"]), (["b"], "ab"), "ab", ("ba", None), (None, "ab"), ("ba", 1), MACHINE, RULE,
    (("ba", "ab"),), {"ba": "ab"}, ("ba", {"a": 1}),
]
NO_WORDS = [
    "c", "abc", "A", "a b", "a\n", "a" * 301, "ab" * 151, "c" * 300, ("a",), ["a"], b"a", b"", (), [], {}, {"a": 1},
    None, 0, 1, True, ("a", "b"), ROW, MACHINE,
]
NO_LIMITS = [0, -1, -300, 10 ** 60, None, True, False, 1.0, 2.5, "3", b"3", (3,), [3], {}, Agreeing(), Broken()]
NO_MATCHES = [
    (3,) + MACHINE[1:], (9,) + MACHINE[1:], (2, "ac") + MACHINE[2:], (2, "bc") + MACHINE[2:], (3,) + PLAIN[1:],
    (2, "xy") + PLAIN[2:], (2, "a", ((((0, 0),),),)), (2, "a", (((0, 0),),)), (2, "abc", (((0, 0),) * 3,)),
    EXACT[301], TIES,
]


NO_PLAINS = [MACHINE, OTHER, listed(PLAIN), list(PLAIN), PLAIN[:2], (2, "ab", PLAIN[2] * 101), (2, "ab", PLAIN[2][:1])]
NO_NUMBERS = [
    (2, 4), (0, 2), (1, 0), (1, -1), (-1, -2), (1,), (1, 2, 3), [1, 4], "1/4", "14", (True, 4), (1, True), (1.0, 4),
    (1, 4.0), (1, None), ((1, 4),), 0.25, 1, 0, {1: 4}, ("1", 4), (1, (4,)),
]
NO_STATES = [-1, 3, 300, 10 ** 60, "1", (1,), [1], 1.0, True, False, None, b"1"]
NO_ARENAS = [
    listed(ARENA), (2,), (1, ARENA[1]), (10, ARENA[1]), (True, ARENA[1]), (2, ()), (2, ARENA[1] * 7), (2, ARENA[1][:1]),
    (2, (("both", ((0, 0),)),)), (2, (("most", ()),)), (2, (("most", ((0, 0),) * 5),)), (2, (("most", ((21, 0),)),)),
    (2, (("most", ((0, 1),)),)), (2, (("most", ((False, 0),)),)), (2, ((b"most", ((0, 0),)),)), MACHINE, PLAIN, RULE,
]


def not_integers(things):
    """Those of the things that are no integers; some are numbers of states."""
    return [thing for thing in things if type(thing) is not int]


def not_strings(things):
    """Those of the things that are no words; the empty string is one."""
    return [thing for thing in things if type(thing) is not str or thing != ""]


def not_limits(things):
    return [thing for thing in things if type(thing) is not int or thing < 1]


NOT_ONE = [(thing, NoMachine) for thing in NO_MACHINES + other_things()]
WRONG = {
    "machine": NOT_ONE,
    "one": NOT_ONE,
    "other": NOT_ONE + [(thing, NoMatch) for thing in NO_MATCHES],
    "rule": [(thing, NoRule) for thing in NO_RULES + other_things()],
    "row": [(thing, NoRow) for thing in NO_ROWS + other_things()],
    "word": [(thing, NoWord) for thing in NO_WORDS + not_strings(other_things())],
    "limit": [(thing, NoLimit) for thing in NO_LIMITS + not_limits(other_things())],
    "plain": [(thing, NoPlain) for thing in NO_MACHINES + NO_PLAINS + other_things()],
    "p": [(thing, NoState) for thing in NO_STATES + not_integers(other_things())],
    "q": [(thing, NoState) for thing in NO_STATES + not_integers(other_things())],
    "number": [(thing, NoNumber) for thing in NO_NUMBERS + other_things()],
    "arena": [(thing, NoArena) for thing in NO_ARENAS + other_things()],
}
# Beside plain, other is a plain machine, too.
NO_OTHER = WRONG["plain"] + [(thing, NoMatch) for thing in [(3, *PLAIN[1:]), (2, "ac", PLAIN[2]), wheel(2, 3)]]
# A machine of one kind only is asked for.
PAIRED = [best_way, shows_way]
GREATEST = {
    led: 300, lacks_of: 300, parted: 2000, levels_of: 2000, apart: 600, apart_table: 600, same_table: 600,
    row_with: 600, bars_of: 600,
}


def wrong_ones(function, name):
    """Values that the argument of this name may not have, each with the error that is due."""
    if name == "other" and "plain" in CALLS[function]:
        return NO_OTHER
    return WRONG.get(name, [])


def call(function, arguments):
    """Call the function with the arguments at their places, but for a limit."""
    places = [arguments[name] for name in arguments if name != "limit"]
    keywords = {name: arguments[name] for name in arguments if name == "limit"}
    return function(*places, **keywords)


def parts_of(thing):
    """All lists and dicts in an answer."""
    found = [thing] if isinstance(thing, (list, dict)) else []
    if isinstance(thing, (tuple, list, dict)):
        for part in thing.values() if isinstance(thing, dict) else thing:
            found.extend(parts_of(part))
    return found


class ErrorsTest(unittest.TestCase):
    def check(self, error, function, arguments):
        try:
            call(function, arguments)
        except error as raised:
            # Not a class below it, and no other one.
            self.assertIs(type(raised), error)
        else:
            self.fail(f"{error.__name__} is not raised by {function.__name__}")

    def test_right_arguments(self):
        for function, arguments in CALLS.items():
            call(function, arguments)

    def test_each_argument(self):
        for function, arguments in CALLS.items():
            for name in arguments:
                for place, (wrong, error) in enumerate(wrong_ones(function, name)):
                    with self.subTest(function.__name__, name=name, place=place):
                        self.check(error, function, {**arguments, name: wrong})

    def test_plain_machines(self):
        for function, arguments in CALLS.items():
            if function in PAIRED:
                self.check(NoMachine, function, {**arguments, "machine": PLAIN})
                self.check(NoMachine, function, {**arguments, "machine": PLAIN, "row": "ab"})
            else:
                for name in ["machine", "one", "other"]:
                    if name in arguments:
                        call(function, {**arguments, name: PLAIN})
        for function in [like_by, least_of, unlike, same_table]:
            self.check(NoPlain, function, {**CALLS[function], "plain": MACHINE})

    def test_several_at_once(self):
        source = series("several")
        for function, arguments in CALLS.items():
            names = [name for name in arguments if wrong_ones(function, name)]
            for many in range(2, len(names) + 1):
                for among in itertools.combinations(names, many):
                    for _ in range(20):
                        changed = {name: source.choice(wrong_ones(function, name)) for name in among}
                        first = changed[among[0]]
                        wrong = {name: changed[name][0] for name in among}
                        self.check(first[1], function, {**arguments, **wrong})

    def test_wrong_things_too(self):
        for function, arguments in CALLS.items():
            if "thing" in arguments:
                for name in arguments:
                    for wrong, error in wrong_ones(function, name)[:3]:
                        for thing in [None, Broken(), Agreeing(), [], ()]:
                            self.check(error, function, {**arguments, name: wrong, "thing": thing})

    def test_any_thing(self):
        for function, arguments in CALLS.items():
            if "thing" in arguments:
                self.assertIs(call(function, arguments), function is not shows_never)
                for thing in other_things():
                    self.assertIs(call(function, {**arguments, "thing": thing}), False)

    def test_letters_of_other_arguments(self):
        machine = (2, "xz", MACHINE[2])
        self.assertRaises(NoRow, worth_of, machine, ("", "a"))
        self.assertRaises(NoRow, worth_of, machine, ("y", "x"))
        self.assertRaises(NoRow, best_way, machine, ("x", "y"))
        self.assertRaises(NoWord, lacks_after, machine, "a")
        self.assertRaises(NoWord, sum_after, machine, "xyz")
        self.assertRaises(NoRule, parted, machine, machine, free_rule("ab"))
        self.assertRaises(NoRule, levels_of, machine, machine, free_rule("xyz"))
        self.assertRaises(NoMatch, parted, machine, MACHINE, free_rule("xz"))
        self.assertRaises(NoMatch, parted, machine, MACHINE, free_rule("ab"))
        self.assertIs(parted(machine, machine, free_rule("xz")), None)
        self.assertEqual(worth_of(machine, ("z", "x")), worth_of(MACHINE, ("b", "a")))
        self.assertEqual(lacks_after(machine, "xz"), lacks_after(MACHINE, "ab"))

    def test_bounds_of_lengths(self):
        for many in [0, 1, 299, 300]:
            self.assertEqual(lacks_after(MACHINE, "b" * many), {0: 0})
            sum_after(MACHINE, "b" * many)
        for many in [301, 302, 1500, 2000]:
            self.assertRaises(NoWord, lacks_after, MACHINE, "b" * many)
            self.assertRaises(NoWord, sum_after, MACHINE, "b" * many)
        for beginning, ring in [(0, 1), (0, 1500), (1500, 1), (1500, 1500)]:
            for function in [worth_of, best_way, worth_table]:
                function(MACHINE, ("b" * beginning, "b" * ring))
        for beginning, ring in [(0, 0), (1, 0), (1500, 0), (1501, 1), (0, 1501), (1501, 1501), (2000, 2000)]:
            for function in [worth_of, best_way, worth_table]:
                self.assertRaises(NoRow, function, MACHINE, ("b" * beginning, "b" * ring))
            for function in [shows_way, shows_worth]:
                self.assertRaises(NoRow, function, MACHINE, ("b" * beginning, "b" * ring), None)

    def test_limits(self):
        for function, greatest in GREATEST.items():
            arguments = CALLS[function]
            for limit in [20, greatest - 1, greatest]:
                self.assertEqual(call(function, {**arguments, "limit": limit}), call(function, arguments))
            for limit in [0, greatest + 1, greatest * 10, -1]:
                self.check(NoLimit, function, {**arguments, "limit": limit})
            self.check(TooGreat, function, {**arguments, "limit": 1})

    def test_too_great_comes_last(self):
        for function in [led, lacks_of]:
            self.check(TooGreat, function, {"machine": EXACT[301]})
            self.check(TooGreat, function, {"machine": EXACT[301], "limit": 300})
            for wrong, error in WRONG["limit"] + [(301, NoLimit), (2000, NoLimit)]:
                self.check(error, function, {"machine": EXACT[301], "limit": wrong})
        names = ["one", "other", "rule"]
        for function in [parted, levels_of]:
            self.check(TooGreat, function, dict(zip(names, WHEELS)))
            for wrong, error in WRONG["limit"] + [(2001, NoLimit)]:
                self.check(error, function, {**dict(zip(names, WHEELS)), "limit": wrong})
            for wrong in [free_rule("b"), free_rule("ab"), None, ("a", ((1,),))]:
                self.check(NoRule, function, {**dict(zip(names, WHEELS)), "rule": wrong})

    def test_words_of_the_rule_come_last(self):
        barred = {"machine": EXACT[301], "rule": ("abc", ((0, None, 0),)), "word": "ab"}
        self.check(NoWord, span, barred)
        self.check(TooGreat, span, {**barred, "word": "ac"})
        self.check(NoRule, span, {**barred, "rule": ("ab", ((0, None),))})

    def test_has_row_comes_after_too_great(self):
        other = (2, "ab", (((1, 1), (1, 0)), ((2, 2), (0, 0)), ((2, 2), (1, 0))))
        self.check(HasRow, same_table, {"plain": PLAIN, "other": other, "limit": 3})
        self.check(TooGreat, same_table, {"plain": PLAIN, "other": other, "limit": 2})
        found = {"plain": SEARCH[0], "rule": SEARCH[1], "number": (0, 1), "limit": 1}
        self.check(HasRow, bars_of, found)
        self.assertEqual(call(row_with, found), ("", "a"))
        self.check(TooGreat, bars_of, {**found, "rule": free_rule("ab"), "number": (2, 3)})
        for wrong, error in WRONG["limit"] + [(601, NoLimit)]:
            self.check(error, bars_of, {**found, "limit": wrong})
            self.check(error, same_table, {"plain": PLAIN, "other": other, "limit": wrong})

    def test_shows_raise_nothing_that_is_too_great(self):
        self.assertIs(shows_led(EXACT[301], (led(MACHINE), lacks_of(MACHINE))), False)
        self.assertIs(shows_levels(*WHEELS, [[(0, 0, ((0, 0),))]]), False)
        self.assertIs(shows_never(*WHEELS, [(0, 0, ((0, 0),))]), False)

    def test_no_errors_for_what_is_right(self):
        source = series("right")
        for _ in range(40):
            base, letters = source.randint(2, 9), "abc"[:source.randint(1, 3)]
            one, other = machine_of(source, base, letters, 1), plain_of(source, base, letters, 3)
            for first, second in [(one, other), (other, one), (one, one), (other, other)]:
                rule = rule_of(source, letters)
                shows_levels(first, second, rule, None)
                try:
                    parted(first, second, rule)
                except TooGreat:
                    pass
                for function in [lacks_after, sum_after]:
                    function(first, letters)
                for function in [worth_of, worth_table]:
                    function(first, (letters, letters))
                led(first)

    def test_limits_by_name_alone(self):
        self.assertRaises(TypeError, led, MACHINE, 300)
        self.assertRaises(TypeError, lacks_of, MACHINE, 300)
        self.assertRaises(TypeError, parted, MACHINE, OTHER, RULE, 2000)
        self.assertRaises(TypeError, levels_of, MACHINE, OTHER, RULE, 2000)
        self.assertRaises(TypeError, apart, MACHINE, OTHER, RULE, 600)
        self.assertRaises(TypeError, apart_table, MACHINE, OTHER, RULE, 600)
        self.assertRaises(TypeError, same_table, PLAIN, TWIN, 600)
        self.assertRaises(TypeError, row_with, *SEARCH, 600)
        self.assertRaises(TypeError, bars_of, *SEARCH, 600)

    def test_wrong_arguments_are_as_before(self):
        for function, arguments in CALLS.items():
            for name in arguments:
                wrong = {**arguments, name: listed(arguments[name]) if name != "limit" else [3]}
                before = repr(wrong)
                try:
                    call(function, wrong)
                except LaterError:
                    pass
                self.assertEqual(repr(wrong), before)


class AnswersTest(unittest.TestCase):
    def test_arguments_by_name(self):
        for function, arguments in CALLS.items():
            with self.subTest(function.__name__):
                right = call(function, arguments)
                for names in itertools.permutations(arguments):
                    self.assertEqual(function(**{name: arguments[name] for name in names}), right)

    def test_the_same_again(self):
        for function, arguments in CALLS.items():
            with self.subTest(function.__name__):
                first, second = call(function, arguments), call(function, copy.deepcopy(arguments))
                self.assertEqual(first, second)
                self.assertEqual(repr(first), repr(second))

    def test_changes_change_no_later_answer(self):
        for function, arguments in CALLS.items():
            with self.subTest(function.__name__):
                answer = call(function, arguments)
                before = copy.deepcopy(answer)
                for part in parts_of(answer):
                    part.clear()
                self.assertEqual(call(function, arguments), before)

    def test_all_lists_and_dicts_are_new(self):
        for function, arguments in CALLS.items():
            if "thing" not in arguments:
                with self.subTest(function.__name__):
                    answers = [call(function, arguments), call(function, arguments)]
                    parts = parts_of(answers[0]) + parts_of(answers[1])
                    self.assertEqual(len({id(part) for part in parts}), len(parts))

    def test_new_ones_where_they_are_equal(self):
        plain = (2, "a", (((1, 0),),))
        table = worth_table(plain, ("aaa", "aaa"))
        self.assertEqual(table, [{0: (2, 1)}] * 6)
        self.assertEqual(len({id(part) for part in table}), 6)
        first, again = best_way((2, "a", ((((1, 0),),),)), ("a", "a"))
        self.assertEqual(first, again)
        self.assertIsNot(first, again)

    def test_things_are_as_before(self):
        for function, arguments in CALLS.items():
            before = copy.deepcopy(arguments)
            call(function, arguments)
            self.assertEqual(repr(arguments), repr(before))

    def test_what_was_returned_may_be_passed(self):
        source = series("passed")
        for _ in range(20):
            machine = machine_of(source, 3, "ab", 2, 2)
            plain = led(machine)
            row = ("a" * 40, "ab" * 20)
            self.assertIs(shows_worth(plain, row, worth_table(plain, row)), True)
            self.assertIs(shows_way(machine, row, best_way(machine, row)), True)
            self.assertIs(parted(machine, plain, free_rule("ab")), None)
            self.assertIs(shows_led(plain, (led(plain), lacks_of(plain))), True)


if __name__ == "__main__":
    unittest.main()
