"""What shows_levels and shows_never show."""

import copy
import itertools
import unittest

from laterless.errors import TooGreat
from laterless.leads import levels_of, parted, shows_levels, shows_never
from laterless.machines import free_rule
from makers import machine_of, plain_of, rule_of, series, wheel
from parts import Agreeing, Broken, listed, of_other_kinds, other_things, part_at, paths_of, put
from reckoning import choice_of, pays_of

FIRST = (0, 0, ((0, 0),))
ONE, OTHER = (2, "ab", (((2, 0), (0, 0)),)), (2, "ab", (((1, 0), (1, 0)),))
WON = (ONE, OTHER, free_rule("ab"))
# No word is won, and there are standings with two leads.
NEVER = (
    (2, "ab", ((((0, 0), (1, 1)), ((1, 0),)), (((2, 1),), ((0, 0),)))),
    (2, "ab", ((((0, 0), (1, 1)), ((1, 0),)), (((2, 1),), ((0, 0),)))),
    ("ab", ((0, 1), (0, None))),
)


def contests(name, many):
    """Contests with at most 300 standings, each with its levels."""
    source, found = series(name), []
    for at in range(many):
        letters = "abc"[:1 + at % 3]
        base = source.choice([2, 2, 3, 9])
        one = plain_of(source, base, letters, 3, 3) if at % 5 == 0 else machine_of(source, base, letters, most=3)
        other = plain_of(source, base, letters, 3, 3) if at % 7 == 0 else machine_of(source, base, letters, most=3)
        contest = (one, other if at % 4 else one, rule_of(source, letters))
        try:
            found.append((contest, levels_of(*contest, limit=300)))
        except TooGreat:
            continue
    return found


def together(told):
    return list(itertools.chain(*told))


def successors(one, other, rule, standing):
    """All successors of a standing, whatever its leads are, by the rule of [7]."""
    base, (place, state, leads) = one[0], standing
    over = max(0, max(pays_of(other)) - min(pays_of(one)))
    below = max(0, max(pays_of(one)) - min(pays_of(other)))
    found = set()
    for letter, after in zip(rule[0], rule[1][place]):
        for pay, later in choice_of(one, state, letter):
            ahead = {}
            for rival, lead in leads:
                for loss, to in choice_of(other, rival, letter):
                    ahead.setdefault(to, []).append(base * (lead + pay - loss))
            least = {to: min(part) for to, part in ahead.items()}
            if after is not None and not any(-lead * (base - 1) >= below * base for lead in least.values()):
                kept = [(to, lead) for to, lead in sorted(least.items()) if not lead * (base - 1) > over * base]
                found.add((after, later, tuple(kept)))
    return found


def closed(contest, standings, most=400):
    """The standings with all that follow; None if there are too many, or one of them has no leads."""
    found = list(standings)
    for standing in found:
        if not standing[2] or len(found) > most:
            return None
        found.extend(sorted(successors(*contest, standing) - set(found)))
    return found


class ShowsLevelsTest(unittest.TestCase):
    def test_the_told_list(self):
        for contest, told in contests("told", 120):
            self.assertIs(shows_levels(*contest, told), True)
            self.assertIs(shows_levels(*contest, [list(level) for level in told]), True)

    def test_small(self):
        told = [[FIRST], [(0, 0, ((0, 2),))], [(0, 0, ())]]
        self.assertIs(shows_levels(*WON, told), True)
        self.assertIs(shows_levels(*WON, told[:2]), False)
        self.assertIs(shows_levels(OTHER, ONE, free_rule("ab"), told), True)
        self.assertIs(shows_levels(ONE, ONE, free_rule("ab"), told), False)
        self.assertIs(shows_levels(ONE, OTHER, ("ab", ((None, 0),)), told), False)
        self.assertIs(shows_levels(ONE, OTHER, ("ab", ((None, 0),)), told[:1]), True)

    def test_levels_left_out_and_put_in(self):
        for contest, told in contests("left out", 60):
            for place in range(len(told)):
                self.assertIs(shows_levels(*contest, told[:place] + told[place + 1:]), False)
                self.assertIs(shows_levels(*contest, told[:place] + [told[place]] + told[place:]), False)
                self.assertIs(shows_levels(*contest, told[:place] + [[]] + told[place:]), False)
                self.assertIs(shows_levels(*contest, told[:place]), False)
            self.assertIs(shows_levels(*contest, told + [[]]), False)
            self.assertIs(shows_levels(*contest, told + [[FIRST]]), False)
            self.assertIs(shows_levels(*contest, [together(told)]), len(told) == 1)

    def test_levels_that_go_on_behind_a_won_word(self):
        # The standings of the next level are those that would come if none had been without leads.
        one, other = (2, "ab", (((2, 0), (0, 1)), ((0, 1), (1, 0)))), (2, "ab", (((0, 0), (0, 0)), ((1, 1), (1, 1))))
        told = levels_of(one, other, free_rule("ab"))
        self.assertEqual(told, [[FIRST], [(0, 0, ()), (0, 1, ((0, 0),))]])
        self.assertIs(shows_levels(one, other, free_rule("ab"), told), True)
        later = set().union(*[successors(one, other, free_rule("ab"), standing) for standing in told[1]])
        later -= set(together(told))
        self.assertGreater(len(later), 1)
        self.assertIs(shows_levels(one, other, free_rule("ab"), told + [sorted(later)]), False)

    def test_levels_exchanged(self):
        for contest, told in contests("exchanged", 60):
            for place in range(len(told) - 1):
                thing = list(told)
                thing[place], thing[place + 1] = thing[place + 1], thing[place]
                self.assertIs(shows_levels(*contest, thing), False)
            self.assertIs(shows_levels(*contest, told[::-1]), len(told) == 1)

    def test_standings_changed(self):
        source = series("changed standings")
        for contest, told in contests("changed", 90):
            for place in range(len(told)):
                level = told[place]
                at = source.randrange(len(level))
                place_, state, leads = level[at]
                changed = [
                    level[:at] + level[at + 1:], level[:at] + [level[at]] + level[at:],
                    [FIRST] + level, level + [FIRST],
                    level[:at] + [(place_ + 1, state, leads)] + level[at + 1:],
                    level[:at] + [(place_, state + 1, leads)] + level[at + 1:],
                    level[:at] + [(place_, state, leads[1:] if leads else ((0, 0),))] + level[at + 1:],
                    level[:at] + [(place_, state, leads + ((9, 0),))] + level[at + 1:],
                    level[:at] + [(place_, state, tuple([(to, lead + 1) for to, lead in leads]) + ((8, 1),))],
                ]
                if len(level) > 1:
                    changed = changed + [level[::-1], level[1:] + level[:1]]
                for wrong in changed:
                    thing = list(told)
                    thing[place] = wrong
                    self.assertIs(shows_levels(*contest, thing), False)

    def test_standings_in_another_level(self):
        for contest, told in contests("another level", 60):
            for place in range(1, len(told)):
                thing = [list(level) for level in told]
                moved = thing[place].pop()
                thing[place - 1] = sorted(thing[place - 1] + [moved])
                self.assertIs(shows_levels(*contest, thing), False)
                self.assertIs(shows_levels(*contest, [level for level in thing if level]), False)

    def test_other_kinds(self):
        told = levels_of(*NEVER)
        self.assertGreater(len(together(told)), 4)
        for thing in [tuple(told), [tuple(level) for level in told], dict(enumerate(told)),
                      iter(told), [dict.fromkeys(level) for level in told], together(told), (told,), [told],
                      [[list(part) for part in level] for level in told], [set(level) for level in told]]:
            self.assertIs(shows_levels(*NEVER, thing), False)
        for place, level in enumerate(told):
            for at, standing in enumerate(level):
                for path in paths_of(standing)[1:]:
                    for wrong in of_other_kinds(part_at(standing, path)):
                        if not type(wrong) is type(part_at(standing, path)):
                            thing = copy.deepcopy(told)
                            thing[place][at] = put(standing, path, [wrong])
                            self.assertIs(shows_levels(*NEVER, thing), False)

    def test_other_things(self):
        told = levels_of(*NEVER)
        for thing in other_things():
            for whole in [thing, [thing], [[thing]], told[:-1] + [thing], told + [thing], [[FIRST, thing]]]:
                self.assertIs(shows_levels(*NEVER, whole), False)

    def test_booleans(self):
        for wrong in [(False, 0, ((0, 0),)), (0, False, ((0, 0),)), (0, 0, ((False, 0),)), (0, 0, ((0, False),))]:
            self.assertEqual(wrong, FIRST)
            self.assertIs(shows_levels(ONE, OTHER, ("ab", ((None, 0),)), [[wrong]]), False)
        self.assertIs(shows_levels(ONE, OTHER, ("ab", ((None, 0),)), [[FIRST]]), True)

    def test_more_standings_than_any_limit(self):
        one, other = wheel(2, 69), wheel(2, 29)
        told = [[(0, at % 69, ((at % 29, 0),))] for at in range(2001)]
        self.assertRaises(TooGreat, levels_of, one, other, free_rule("a"))
        self.assertIs(shows_levels(one, other, free_rule("a"), told), True)
        self.assertIs(shows_levels(one, other, free_rule("a"), told[:2000]), False)
        self.assertIs(shows_levels(one, other, free_rule("a"), told + [[FIRST]]), False)
        self.assertIs(shows_levels(one, other, free_rule("a"), told[:1999] + [told[2000]]), False)
        many = [[(0, at % 92, ((at % 95, 0),))] for at in range(8740)]
        self.assertIs(shows_levels(wheel(2, 92), wheel(2, 95), free_rule("a"), many), True)
        self.assertIs(shows_levels(wheel(2, 92), wheel(2, 95), free_rule("a"), many[:-1]), False)

    def test_many_standings_in_a_level(self):
        # From state 0 on, each word of a, b and c goes into a state of its own.
        states = [[(1 if at == 299 else 0, min(3 * at + 1 + more, 299)) for more in range(3)] for at in range(300)]
        one = (9, "abc", tuple([tuple(state) for state in states]))
        other = (9, "abc", (((0, 0), (0, 0), (0, 0)),))
        told = levels_of(one, other, free_rule("abc"))
        self.assertEqual([len(level) for level in told], [1, 3, 9, 27, 81, 179, 1])
        self.assertIs(shows_levels(one, other, free_rule("abc"), told), True)
        told[4].pop()
        self.assertIs(shows_levels(one, other, free_rule("abc"), told), False)

    def test_things_are_as_before(self):
        for thing in [levels_of(*NEVER), levels_of(*WON), [[FIRST], []], [[[0, 0, []]]], [], [[FIRST], [FIRST, True]]]:
            before = repr(thing)
            shows_levels(*NEVER, thing)
            self.assertEqual(repr(thing), before)


class ShowsNeverTest(unittest.TestCase):
    def test_all_standings_in_any_order(self):
        source = series("any order")
        for contest, told in contests("any order", 120):
            thing = together(told)
            right = parted(*contest) is None
            self.assertIs(shows_never(*contest, thing), right)
            self.assertIs(shows_never(*contest, thing[::-1]), right)
            source.shuffle(thing)
            self.assertIs(shows_never(*contest, thing), right)

    def test_one_left_out_or_told_twice(self):
        for contest, told in contests("one of them", 90):
            thing = together(told)
            for at in range(len(thing)):
                # All of them are reached from the first one, so the one ahead of it lacks a successor.
                self.assertIs(shows_never(*contest, thing[:at] + thing[at + 1:]), False)
                self.assertIs(shows_never(*contest, thing + [thing[at]]), False)
                self.assertIs(shows_never(*contest, thing[:at] + [thing[at]] + thing[at:]), False)
            self.assertIs(shows_never(*contest, []), False)

    def test_more_standings(self):
        source, found = series("more standings"), 0
        for contest, told in contests("more", 120):
            one, other, rule = contest
            for _ in range(4):
                among = sorted(source.sample(range(len(other[2])), source.randint(1, len(other[2]))))
                more = (source.randrange(len(rule[1])), source.randrange(len(one[2])),
                        tuple([(to, source.randint(-12, 12)) for to in among]))
                thing = closed(contest, [FIRST] if more == FIRST else [FIRST, more])
                alone = [FIRST] + [part for part in together(told) if part not in (FIRST, more)] + [more]
                follow = successors(one, other, rule, more)
                if parted(*contest) is None and more not in together(told):
                    self.assertIs(shows_never(*contest, alone), follow <= set(alone))
                if thing is not None:
                    found += 1
                    self.assertIs(shows_never(*contest, thing), True)
                    self.assertIs(shows_never(*contest, thing[::-1]), True)
                    self.assertIs(shows_never(*contest, thing[1:]), False)
        self.assertGreater(found, 50)

    def test_more_standings_with_any_leads(self):
        one, other = (2, "a", (((0, 0),),)), (2, "a", (((1, 0),),))
        rule = free_rule("a")
        self.assertIs(shows_never(one, other, rule, [FIRST]), True)
        # Over is 1: from a lead of 3 on it is safe after one letter; from 2 on it stays as it is.
        for lead, right in [(2, True), (3, False), (4, False), (10 ** 60, False), (0, False), (-1, True), (-2, True),
                            (-(10 ** 60), True)]:
            thing = [FIRST, (0, 0, ((0, lead),))]
            self.assertIs(shows_never(one, other, rule, thing), right)
        self.assertIs(shows_never(one, other, rule, [FIRST, (0, 0, ((0, -1),)), (0, 0, ((0, -2),))]), True)
        self.assertIs(shows_never(one, other, rule, [(0, 0, ((0, -1),)), FIRST, (0, 0, ((0, 2),))]), True)
        self.assertIs(shows_never(one, other, rule, [(0, 0, ((0, -1),))]), False)

    def test_a_standing_without_leads(self):
        one, other = (2, "a", (((0, 0),),)), (2, "a", (((1, 0),),))
        self.assertIs(shows_never(one, other, free_rule("a"), [FIRST, (0, 0, ())]), False)
        self.assertIs(shows_never(one, other, free_rule("a"), [(0, 0, ()), FIRST]), False)
        told = levels_of(*WON)
        self.assertIs(shows_never(*WON, together(told)), False)
        self.assertIs(shows_never(*WON, together(told[:-1])), False)

    def test_more_states_of_the_rule(self):
        one, other = (2, "a", (((0, 0),), ((0, 0),))), (2, "a", (((1, 0),),))
        rule = ("a", ((0,), (0,)))
        for more, right in [((1, 0, ((0, 0),)), True), ((0, 1, ((0, 0),)), True), ((2, 0, ((0, 0),)), False),
                            ((0, 2, ((0, 0),)), False), ((0, 0, ((1, 0),)), False), ((-1, 0, ((0, 0),)), False),
                            ((0, -1, ((0, 0),)), False), ((0, 0, ((-1, 0),)), False), ((1, 1, ((0, 0),)), True)]:
            self.assertIs(shows_never(one, other, rule, [FIRST, more]), right)

    def test_states_of_other_ascending(self):
        one, other = (2, "a", (((0, 0),),)), (2, "a", (((1, 0),), ((1, 0),), ((1, 1),)))
        rule = free_rule("a")
        for leads, right in [
            (((0, 0), (1, 0)), True), (((1, 0), (0, 0)), False), (((0, -1), (0, 0)), False), (((0, 0), (0, 0)), False),
            (((0, 0), (1, 0), (2, 0)), True), (((0, 0), (2, 0), (1, 0)), False), (((1, 0), (1, 1)), False),
            (((1, 0), (2, 0)), True), (((0, 0), (1, 0), (2, 0), (2, 1)), False), (((0, 0), (1, 0), (3, 0)), False),
            (((0, 0), (1, 0), (2, 0), (3, 0)), False), (((2, 0), (1, 0), (0, 0)), False),
        ]:
            thing = closed((one, other, rule), [FIRST, (0, 0, leads)]) if right else [FIRST, (0, 0, leads)]
            self.assertIs(shows_never(one, other, rule, thing), right)

    def test_standings_changed(self):
        for contest, told in contests("changed", 60):
            thing = together(told)
            for at, standing in enumerate(thing[:8] if len(thing) < 40 else []):
                for path in paths_of(standing):
                    part = part_at(standing, path)
                    for wrong in [part + 1, part - 1, -1, 10 ** 60, None] if type(part) is int else [(), None, (0, 0)]:
                        other = put(standing, path, [wrong]) if path else wrong
                        if other != standing:
                            changed = thing[:at] + [other] + thing[at + 1:]
                            right = self.right(contest, changed)
                            self.assertIs(shows_never(*contest, changed), right)

    def right(self, contest, thing):
        """Whether a list of three integers or tuples each, or of other values, is what shows_never shows."""
        one, other, rule = contest
        for part in thing:
            if not isinstance(part, tuple) or len(part) != 3 or not isinstance(part[2], tuple) or not part[2]:
                return False
            if part[0] not in range(len(rule[1])) or part[1] not in range(len(one[2])):
                return False
            if not all(isinstance(pair, tuple) and len(pair) == 2 and None not in pair for pair in part[2]):
                return False
            states = [pair[0] for pair in part[2]]
            if states != sorted(set(states)) or not set(states) <= set(range(len(other[2]))):
                return False
        follow = set().union(*[successors(one, other, rule, part) for part in thing])
        return len(set(thing)) == len(thing) and FIRST in thing and follow <= set(thing)

    def test_other_kinds(self):
        thing = together(levels_of(*NEVER))
        self.assertIs(shows_never(*NEVER, thing), True)
        for wrong in [tuple(thing), listed(tuple(thing)), [list(part) for part in thing], set(thing), iter(thing),
                      dict.fromkeys(thing), dict(enumerate(thing)), [thing], levels_of(*NEVER)]:
            self.assertIs(shows_never(*NEVER, wrong), False)
        for at, standing in enumerate(thing):
            for path in paths_of(standing)[1:]:
                for wrong in of_other_kinds(part_at(standing, path)):
                    if not type(wrong) is type(part_at(standing, path)):
                        other = put(standing, path, [wrong])
                        self.assertIs(shows_never(*NEVER, thing[:at] + [other] + thing[at + 1:]), False)
                        self.assertIs(shows_never(*NEVER, thing + [other]), False)

    def test_members_left_out_and_put_in(self):
        thing = together(levels_of(*NEVER))
        for at, standing in enumerate(thing):
            for path in paths_of(standing)[1:]:
                part = part_at(standing, path)
                for members in [[], [part, part], [part, 0], [part, part, part]]:
                    other = put(standing, path, members)
                    self.assertIs(shows_never(*NEVER, thing[:at] + [other] + thing[at + 1:]), False)
                    if not (len(path) == 2 and not members):
                        self.assertIs(shows_never(*NEVER, thing + [other]), False)

    def test_other_things(self):
        thing = together(levels_of(*NEVER))
        for wrong in other_things() + [[Broken()], [Agreeing()], [(0, 0, Agreeing())], [(0, 0, (Agreeing(),))]]:
            self.assertIs(shows_never(*NEVER, wrong), False)
            self.assertIs(shows_never(*NEVER, thing + [wrong]), False)
            self.assertIs(shows_never(*NEVER, [wrong] + thing), False)
            self.assertIs(shows_never(*NEVER, thing + [(0, 0, wrong)]), False)
            self.assertIs(shows_never(*NEVER, thing + [(0, 0, (wrong,))]), False)

    def test_thousands_of_standings(self):
        one, other = wheel(2, 92), wheel(2, 95)
        thing = [(0, at % 92, ((at % 95, 0),)) for at in range(8740)]
        self.assertIs(shows_never(one, other, free_rule("a"), thing), True)
        self.assertIs(shows_never(one, other, free_rule("a"), thing[:8000] + thing[8001:]), False)
        self.assertIs(shows_never(one, other, free_rule("a"), thing[1:]), False)

    def test_things_are_as_before(self):
        for thing in [together(levels_of(*NEVER)), together(levels_of(*WON)), [FIRST, []], [[0, 0, []]], [],
                      [FIRST, (0, 0, [[0, 1]])]]:
            before = repr(thing)
            shows_never(*NEVER, thing)
            self.assertEqual(repr(thing), before)


if __name__ == "__main__":
    unittest.main()
