"""Games: what counts as an arena, the values, plans that hold them, and what is shown."""

import copy
import itertools
import unittest

from laterless.errors import NoArena
from laterless.games import is_arena, plan_of, shows_game, values_of
from makers import arena_of, series
from parts import Agreeing, Broken, listed, of_other_kinds, other_things, part_at, paths_of, put
from reckoning import number
from slow import against_all, fraction, game, held

ARENA = (2, (("most", ((1, 1), (0, 0))), ("least", ((0, 0), (3, 1)))))


def arenas(name, many):
    """Arenas of one side alone and of both."""
    source = series(name)
    sides = [("most", "least"), ("most",), ("least",), ("most", "least")]
    return [arena_of(source, sides=sides[at % 4]) for at in range(many)]


def gains(arena, values, state):
    base, states = arena
    return [pay + values[to] / base for pay, to in states[state][1]]


class ArenaTest(unittest.TestCase):
    def test_right_ones(self):
        for arena in arenas("right", 40) + [ARENA]:
            self.assertIs(is_arena(arena), True)
        state = ("most", ((-20, 0), (20, 11), (20, 11), (0, 5)))
        self.assertIs(is_arena((9, (state,) * 12)), True)
        self.assertIs(is_arena((2, (("least", ((0, 0),)),))), True)
        self.assertIs(is_arena((2, (("least", ((0, 0),) * 4),))), True)

    def test_bounds(self):
        good = ("most", ((0, 0),))
        for wrong in [
            (1, (good,)), (10, (good,)), (0, (good,)), (-2, (good,)), (2, ()), (2, (good,) * 13),
            (2, (("both", ((0, 0),)),)),
            (2, (("Most", ((0, 0),)),)), (2, (("", ((0, 0),)),)), (2, (("most", ()),)), (2, (("most", ((0, 0),) * 5),)),
            (2, (("most", ((21, 0),)),)), (2, (("most", ((-21, 0),)),)), (2, (("most", ((0, 1),)),)),
            (2, (("most", ((0, -1),)),)), (2, (("most", ((0, 0, 0),)),)), (2, (("most", ((0,),)),)), (2,),
            (2, (good,), 2),
            ((good,), 2), (2, good), (2, (("most",),)), (2, (("most", ((0, 0),), 1),)), (2, ((("most",), ((0, 0),)),)),
            (2, (good, good, ("least", ((0, 3),)))), (2, (("mos", ((0, 0),)),)), (2, (("moste", ((0, 0),)),)),
        ]:
            self.assertIs(is_arena(wrong), False)
            for function in [values_of, plan_of]:
                self.assertRaises(NoArena, function, wrong)
            self.assertRaises(NoArena, shows_game, wrong, ([], []))

    def test_kinds(self):
        self.assertIs(is_arena(listed(ARENA)), False)
        for path in paths_of(ARENA):
            part = part_at(ARENA, path)
            for wrong in of_other_kinds(part):
                if type(wrong) is not type(part):
                    self.assertIs(is_arena(put(ARENA, path, [wrong]) if path else wrong), False)
        for thing in other_things():
            for whole in [thing, (2, thing), (2, (thing,)), (2, (("most", thing),)), (2, (("most", (thing,)),)),
                          (2, (("most", ((thing, 0),)),)) if type(thing) is not int or abs(thing) > 20 else None,
                          (2, ((thing, ((0, 0),)),))]:
                self.assertIs(is_arena(whole), False)
            if type(thing) is not int or thing != 2:
                self.assertIs(is_arena((thing, (("most", ((0, 0),)),))), False)

    def test_strings_that_are_equal_alone(self):
        self.assertIs(is_arena((2, ((Agreeing(), ((0, 0),)),))), False)
        self.assertIs(is_arena((2, ((Broken(), ((0, 0),)),))), False)
        self.assertIs(is_arena((2, (("mo" + "st", ((0, 0),)),))), True)


class ValuesTest(unittest.TestCase):
    def test_small(self):
        self.assertEqual([values_of(ARENA), plan_of(ARENA)], [[(4, 3), (2, 3)], [0, 0]])
        self.assertEqual(values_of((2, (("most", ((1, 0), (2, 0))),))), [(4, 1)])
        self.assertEqual(values_of((2, (("least", ((1, 0), (2, 0))),))), [(2, 1)])

    def test_the_values_solve_their_equations(self):
        source = series("equations")
        for arena in arenas("equations", 200) + [arena_of(source, 12) for _ in range(60)]:
            told = values_of(arena)
            self.assertEqual([type(told), len(told)], [list, len(arena[1])])
            values = [fraction(value) for value in told]
            self.assertEqual(told, [number(value) for value in values])
            for state, (side, _) in enumerate(arena[1]):
                best = max if side == "most" else min
                self.assertEqual(values[state], best(gains(arena, values, state)))

    def test_against_all_plans_of_both(self):
        for arena in arenas("plans", 120):
            if sum(len(steps) for _, steps in arena[1]) <= 10:
                self.assertEqual(values_of(arena), [number(value) for value in game(arena)])

    def test_the_plan_holds_the_values(self):
        source = series("holds")
        for arena in arenas("holds", 120) + [arena_of(source, 6) for _ in range(10)]:
            values, plan = values_of(arena), plan_of(arena)
            self.assertEqual([type(plan), [type(at) for at in plan]], [list, [int] * len(arena[1])])
            for (_, steps), at in zip(arena[1], plan):
                self.assertTrue(0 <= at < len(steps))
            for side in ["most", "least"]:
                self.assertEqual([number(value) for value in against_all(arena, plan, side)], values)

    def test_both_keep_to_the_plan(self):
        for arena in arenas("both", 60):
            self.assertEqual([number(value) for value in held(*arena, plan_of(arena))], values_of(arena))

    def test_twelve_states(self):
        states = tuple([
            ("most" if at % 2 else "least", ((20, (at + 1) % 12), (-20, (at + 5) % 12))) for at in range(12)])
        for base in range(2, 10):
            values = [fraction(value) for value in values_of((base, states))]
            for state, (side, _) in enumerate(states):
                best = max if side == "most" else min
                self.assertEqual(values[state], best(gains((base, states), values, state)))

    def test_ties(self):
        arena = (2, (("most", ((1, 0), (1, 1), (1, 0))), ("least", ((1, 0), (1, 1), (2, 0), (1, 1)))))
        self.assertEqual(values_of(arena), [(2, 1), (2, 1)])
        self.assertTrue(plan_of(arena)[0] in (0, 1, 2) and plan_of(arena)[1] in (0, 1, 3))


class ShowsGameTest(unittest.TestCase):
    def test_all_plans(self):
        found = {True: 0, False: 0}
        for arena in arenas("all plans", 120):
            if sum(len(steps) for _, steps in arena[1]) > 9:
                continue
            values = values_of(arena)
            for plan in itertools.product(*[range(-1, len(steps) + 1) for _, steps in arena[1]]):
                right = self.right(arena, values, plan)
                self.assertIs(shows_game(arena, (values, list(plan))), right)
                found[right] += 1
        self.assertGreater(min(found.values()), 60)

    def right(self, arena, values, plan):
        """Whether the plan holds the values against every fixed plan of the other side."""
        if not all(0 <= at < len(steps) for at, (_, steps) in zip(plan, arena[1])):
            return False
        return all(
            [number(value) for value in against_all(arena, plan, side)] == values for side in ["most", "least"])

    def test_the_told_answer(self):
        source = series("told")
        for arena in arenas("told", 60) + [arena_of(source, 12) for _ in range(20)]:
            self.assertIs(shows_game(arena, (values_of(arena), plan_of(arena))), True)

    def test_other_best_plans(self):
        arena = (2, (("most", ((1, 0), (1, 1), (1, 0))), ("least", ((1, 0), (1, 1), (2, 0), (1, 1)))))
        for plan in itertools.product(range(3), range(4)):
            self.assertIs(shows_game(arena, ([(2, 1), (2, 1)], list(plan))), plan[1] != 2)

    def test_values_changed(self):
        for arena in arenas("values", 60) + [ARENA]:
            values, plan = values_of(arena), plan_of(arena)
            for at, (n, d) in enumerate(values):
                for wrong in [(n + 1, d), (n - 1, d), (n, d + 1), (2 * n, 2 * d), (-n, -d), (n, 0), (n + d, d)]:
                    if wrong != (n, d):
                        self.assertIs(shows_game(arena, (values[:at] + [wrong] + values[at + 1:], plan)), False)
            more = [number(fraction(value) + 1) for value in values]
            self.assertIs(shows_game(arena, (more, plan)), False)

    def test_values_of_plans_that_are_not_best(self):
        wrong = 0
        for arena in arenas("not best", 60):
            values = values_of(arena)
            for plan in itertools.islice(itertools.product(*[range(len(steps)) for _, steps in arena[1]]), 60):
                # What is paid if both keep to the plan solves the equations of its pairs, but not of all others.
                told = [number(value) for value in held(*arena, plan)]
                wrong += told != values
                self.assertIs(shows_game(arena, (told, list(plan))), told == values)
        self.assertGreater(wrong, 100)

    def test_members_left_out_and_put_in(self):
        values, plan = values_of(ARENA), plan_of(ARENA)
        for thing in [(values[:1], plan), (values, plan[:1]), (values[:1], plan[:1]), (values + values[:1], plan),
                      (values, plan + [0]), ([], []), (values, []), (values[::-1], plan), (values, plan, plan),
                      (values,),
                      (plan, values), [values, plan], (tuple(values), plan), (values, tuple(plan)),
                      (dict(enumerate(values)), plan), (values, dict(enumerate(plan))), values, plan]:
            self.assertIs(shows_game(ARENA, thing), False)

    def test_kinds(self):
        values, plan = values_of(ARENA), plan_of(ARENA)
        for at in range(2):
            for wrong in of_other_kinds(values[at]):
                if type(wrong) is not tuple:
                    self.assertIs(shows_game(ARENA, (values[:at] + [wrong] + values[at + 1:], plan)), False)
            for wrong in of_other_kinds(plan[at]):
                if type(wrong) is not int:
                    self.assertIs(shows_game(ARENA, (values, plan[:at] + [wrong] + plan[at + 1:])), False)
        for thing in other_things():
            for whole in [thing, (thing, plan), (values, thing), (values[:1] + [thing], plan)]:
                self.assertIs(shows_game(ARENA, whole), False)
            if type(thing) is not int or thing != 0:
                self.assertIs(shows_game(ARENA, (values, plan[:1] + [thing])), False)

    def test_booleans(self):
        arena = (2, (("most", ((1, 1), (0, 0))), ("least", ((0, 0), (-1, 1)))))
        self.assertIs(shows_game(arena, ([(0, 1), (-2, 1)], [0, 1])), True)
        for thing in [([(0, 1), (-2, 1)], [False, 1]), ([(0, 1), (-2, 1)], [0, True]), ([(False, 1), (-2, 1)], [0, 1]),
                      ([(0, True), (-2, 1)], [0, 1]), ([(0, 1), (-2, 1)], [0, 1.0])]:
            self.assertEqual(thing, ([(0, 1), (-2, 1)], [0, 1]))
            self.assertIs(shows_game(arena, thing), False)

    def test_numbers_from_behind(self):
        values = values_of(ARENA)
        for plan in [[-2, 0], [0, -2], [-1, -1], [2, 0], [0, 2], [0, 10 ** 60]]:
            self.assertIs(shows_game(ARENA, (values, plan)), False)

    def test_things_are_as_before(self):
        for thing in [(values_of(ARENA), plan_of(ARENA)), ([[1, 2]], [0]), ([(4, 3), [2, 3]], [0, 0])]:
            before = copy.deepcopy(thing)
            shows_game(ARENA, thing)
            self.assertEqual(thing, before)


if __name__ == "__main__":
    unittest.main()
