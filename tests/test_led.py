"""Plain machines of the dicts of lacks: what led and lacks_of return, and what shows_led shows."""

import copy
import unittest

from laterless.errors import TooGreat
from laterless.lacks import lacks_after, lacks_of, led, shows_led, sum_after
from laterless.machines import is_plain
from laterless.rows import worth_of
from makers import EXACT, MACHINE, TIES, plain_of, plains_and_others, row_of, series, wheel, word_of
from parts import Agreeing, Broken, of_other_kinds, other_things, paths_of, put
from reckoning import dicts, lacks_on

DICTS = [{0: 0}, {0: 2, 1: 0}, {1: 0}]
PLAIN = (2, "ab", (((1, 1), (1, 0)), ((2, 2), (0, 0)), ((2, 2), (0, 0))))


def few_dicts(name, many):
    """Machines with at most 60 dicts of lacks."""
    found = []
    for machine in plains_and_others(name, many):
        try:
            led(machine, limit=60)
        except TooGreat:
            continue
        found.append(machine)
    return found


def is_led(machine, plain, told):
    """Whether all pays and dicts are those that [5] gives."""
    return told[0] == {0: 0} and all(
        lacks_on(machine, lacks, letter) == (pay, told[to])
        for lacks, state in zip(told, plain[2]) for letter, (pay, to) in zip(machine[1], state))


def more_states(source, machine):
    """What led and lacks_of return, with some more states, of any lacks."""
    plain, told = led(machine), lacks_of(machine)
    for _ in range(3):
        among = source.sample(range(len(machine[2])), source.randint(1, len(machine[2])))
        told.append({state: source.choice([0, 1, 7, 10 ** 20]) for state in among})
    states = list(plain[2])
    while len(states) < len(told):
        state = []
        for letter in machine[1]:
            pay, later = lacks_on(machine, told[len(states)], letter)
            if later not in told:
                told.append(later)
            state.append((pay, told.index(later)))
        states.append(tuple(state))
    return plain[:2] + (tuple(states),), told


class LedTest(unittest.TestCase):
    def test_small(self):
        self.assertEqual(led(MACHINE), PLAIN)
        self.assertEqual(lacks_of(MACHINE), DICTS)
        self.assertEqual(led((2, "a", ((((3, 0), (1, 0)),),))), (2, "a", (((3, 0),),)))
        self.assertEqual(lacks_of((2, "a", ((((3, 0), (1, 0)),),))), [{0: 0}])

    def test_dicts_in_the_order_of_words(self):
        for machine in few_dicts("order", 96):
            found = lacks_of(machine)
            self.assertEqual(found, dicts(machine, 300))
            self.assertEqual([type(found)] + [type(part) for part in found], [list] + [dict] * len(found))

    def test_hundreds_of_dicts(self):
        for many, machine in EXACT.items():
            told = dicts(machine, many)
            self.assertEqual(len(told), many)
            if many == 300:
                self.assertEqual(lacks_of(machine), told)

    def test_led_follows_the_lacks(self):
        source = series("follows")
        for machine in few_dicts("follows", 72) + [EXACT[300]]:
            plain, told = led(machine), lacks_of(machine)
            self.assertIs(is_plain(plain), True)
            self.assertEqual([plain[:2], len(plain[2])], [machine[:2], len(told)])
            for _ in range(5):
                word, state, sum_ = word_of(source, machine[1], source.randint(0, 12)), 0, 0
                for letter in word:
                    pay, state = plain[2][state][machine[1].index(letter)]
                    sum_ = sum_ * machine[0] + pay
                self.assertEqual(told[state], lacks_after(machine, word))
                n, d = sum_after(machine, word)
                self.assertEqual(sum_ * machine[0] * d, n * machine[0] ** len(word))

    def test_same_worth_for_every_row(self):
        source = series("same worth")
        for machine in few_dicts("same worth", 72) + [EXACT[300]]:
            plain = led(machine)
            for _ in range(8):
                row = row_of(source, machine[1])
                self.assertEqual(worth_of(plain, row), worth_of(machine, row))

    def test_what_led_returned(self):
        for machine in few_dicts("again", 96) + [EXACT[300]]:
            plain = led(machine)
            self.assertEqual(led(plain), plain)
            self.assertEqual(lacks_of(plain), [{state: 0} for state in range(len(plain[2]))])

    def test_plain_machines_are_renumbered(self):
        plain = (3, "ab", (((1, 3), (2, 0)), ((9, 1), (9, 1)), ((5, 0), (6, 3)), ((7, 3), (8, 2))))
        self.assertEqual(led(plain), (3, "ab", (((1, 1), (2, 0)), ((7, 1), (8, 2)), ((5, 0), (6, 1)))))
        self.assertEqual(lacks_of(plain), [{0: 0}, {3: 0}, {2: 0}])
        self.assertEqual(led(wheel(2, 200)), (2, "a", tuple([((0, (at + 1) % 200),) for at in range(200)])))
        source = series("renumbered")
        for _ in range(30):
            plain = plain_of(source, many=8)
            told = lacks_of(plain)
            order = [state for lacks in told for state in lacks]
            self.assertEqual(len(set(order)), len(order))
            self.assertEqual(led(plain)[2], tuple([
                tuple([(pay, order.index(to)) for pay, to in plain[2][state]]) for state in order]))

    def test_great_pays(self):
        plain = (9, "a", (((10 ** 30, 1),), ((-(10 ** 30), 0),)))
        self.assertEqual(led(plain), plain)


class LimitTest(unittest.TestCase):
    def test_as_many_as_the_limit(self):
        for machine in few_dicts("limit", 48) + [MACHINE, TIES, EXACT[300]]:
            many = len(lacks_of(machine))
            for limit in {many, min(300, many + 1), 300}:
                self.assertEqual(led(machine, limit=limit), led(machine))
                self.assertEqual(lacks_of(machine, limit=limit), lacks_of(machine))
            for limit in {1, many - 1, many // 2} - {0, many}:
                self.assertRaises(TooGreat, led, machine, limit=limit)
                self.assertRaises(TooGreat, lacks_of, machine, limit=limit)

    def test_default(self):
        for function in [led, lacks_of]:
            self.assertRaises(TooGreat, function, EXACT[301])
            self.assertRaises(TooGreat, function, EXACT[301], limit=300)
        self.assertEqual(len(led(EXACT[300])[2]), 300)
        self.assertEqual(len(lacks_of(EXACT[300])), 300)

    def test_plain(self):
        full = (2, "a", tuple([((0, (at + 1) % 300),) for at in range(300)]))
        self.assertEqual(led(full), full)
        self.assertEqual(len(lacks_of(full, limit=300)), 300)
        self.assertRaises(TooGreat, led, full, limit=299)
        # States that no word reaches do not count.
        self.assertEqual(len(led(wheel(2, 7), limit=7)[2]), 7)
        self.assertRaises(TooGreat, lacks_of, wheel(2, 7), limit=6)

    def test_one(self):
        self.assertEqual(led((2, "a", ((((3, 0), (1, 0)),),)), limit=1), (2, "a", (((3, 0),),)))
        self.assertRaises(TooGreat, led, MACHINE, limit=1)


class ShowsLedTest(unittest.TestCase):
    def test_the_told_pair(self):
        for machine in few_dicts("told", 96) + [EXACT[300], MACHINE, TIES]:
            self.assertIs(shows_led(machine, (led(machine), lacks_of(machine))), True)
            self.assertIs(shows_led(led(machine), (led(machine), lacks_of(led(machine)))), True)

    def test_dicts_in_another_order(self):
        self.assertIs(shows_led(MACHINE, (PLAIN, [{0: 0}, {1: 0, 0: 2}, {1: 0}])), True)

    def test_states_told_twice(self):
        plain = (2, "ab", (((1, 1), (1, 3)), ((2, 2), (0, 0)), ((2, 4), (0, 3)), ((1, 1), (1, 0)), ((2, 2), (0, 3))))
        told = [{0: 0}, {0: 2, 1: 0}, {1: 0}, {0: 0}, {1: 0}]
        self.assertIs(shows_led(MACHINE, (plain, told)), True)
        self.assertIs(shows_led(MACHINE, (plain, told[:3] + [told[0], told[2]])), True)
        self.assertIs(shows_led(MACHINE, (plain, told[:3] + [{1: 0}, {0: 0}])), False)
        self.assertIs(shows_led(MACHINE, (plain, told[:4])), False)

    def test_states_that_no_word_reaches(self):
        plain = (2, "ab", PLAIN[2] + (((-4, 1), (-4, 0)), ((-3, 2), (-5, 0))))
        for more, right in [
            ([{0: 5}, {0: 10 ** 40, 1: 5}], True), ([{0: 5}, {1: 5}], True), ([{0: 5, 1: 10 ** 40}, {1: 5}], True),
            ([{0: 5}, {0: 10 ** 40, 1: 6}], False), ([{0: 4}, {1: 5}], False), ([{0: 5, 1: 5}, {1: 5}], False),
            ([{0: 5}, {}], False), ([{}, {1: 5}], False), ([{0: 5}], False), ([{0: 5}, {2: 5}], False),
            ([{0: 5}, {-1: 5}], False), ([{-2: 5}, {1: 5}], False), ([{0: 5}, {True: 5}], False),
        ]:
            self.assertIs(shows_led(MACHINE, (plain, DICTS + more)), right)
        # What [5] gives from a lack below 0 would be these pays.
        for lack in [0, -1, -5, -(10 ** 20)]:
            plain = (2, "ab", PLAIN[2] + (((1 - lack, 1), (1 - lack, 0)),))
            self.assertIs(shows_led(MACHINE, (plain, DICTS + [{0: lack}])), lack == 0)

    def test_any_lacks_in_states_that_no_word_reaches(self):
        source = series("any lacks")
        for machine in few_dicts("any lacks", 48):
            plain, told = more_states(source, machine)
            self.assertIs(is_plain(plain), True)
            self.assertIs(shows_led(machine, (plain, told)), True)
            for _ in range(20):
                thing = copy.deepcopy(told)
                lacks = source.choice(thing)
                state = source.choice(list(lacks))
                lacks[state] = max(0, lacks[state] + source.choice([-1, 1, machine[0], 10 ** 9]))
                self.assertIs(shows_led(machine, (plain, thing)), is_led(machine, plain, thing))

    def test_of_another_machine(self):
        for machine in [TIES, led(MACHINE), (3,) + MACHINE[1:], (2, "ac", MACHINE[2])]:
            self.assertIs(shows_led(machine, (PLAIN, DICTS)), False)
        one = (2, "a", ((((1, 0),),),))
        self.assertIs(shows_led(one, ((2, "a", (((1, 0),),)), [{0: 0}])), True)
        self.assertIs(shows_led(one, ((3, "a", (((1, 0),),)), [{0: 0}])), False)
        self.assertIs(shows_led(one, ((2, "b", (((1, 0),),)), [{0: 0}])), False)
        self.assertIs(shows_led(one, ((2, "ab", (((1, 0), (1, 0)),)), [{0: 0}])), False)

    def test_pairs_changed(self):
        for machine in few_dicts("changed pairs", 24) + [MACHINE]:
            plain, told = led(machine), lacks_of(machine)
            for path in paths_of(plain[2]):
                if len(path) == 3:
                    right = plain[2][path[0]][path[1]][path[2]]
                    for wrong in [right + 1, right - 1, right + len(told), -1, 10 ** 40, None, str(right), (right,)]:
                        states = put(plain[2], path, [wrong])
                        if wrong != right:
                            self.assertIs(shows_led(machine, (plain[:2] + (states,), told)), False)

    def test_kinds_within_the_plain_machine(self):
        for path in paths_of(PLAIN)[1:]:
            part = PLAIN
            for at in path:
                part = part[at]
            for wrong in of_other_kinds(part):
                if not (type(wrong) is type(part) and wrong == part):
                    self.assertIs(shows_led(MACHINE, (put(PLAIN, path, [wrong]), DICTS)), False)
            self.assertIs(shows_led(MACHINE, (put(PLAIN, path, []), DICTS)), False)
            self.assertIs(shows_led(MACHINE, (put(PLAIN, path, [part, part]), DICTS)), False)

    def test_lacks_changed(self):
        wrong_lacks = [1, 3, -1, -2, 4, 2 + 10 ** 60, True, False, 0.0, 2.0, "0", None, (0,), [0], Agreeing(), Broken()]
        for place, lacks in enumerate(DICTS):
            for state in lacks:
                for wrong in wrong_lacks:
                    thing = copy.deepcopy(DICTS)
                    thing[place][state] = wrong
                    self.assertIs(shows_led(MACHINE, (PLAIN, thing)), False)

    def test_states_changed(self):
        for place, lacks in enumerate(DICTS):
            changed = [{}] + [{**lacks, more: 0} for more in [2, -1, 10 ** 9, "0", None]]
            for state in lacks:
                others = {key: lacks[key] for key in lacks if key != state}
                for key in [bool(state), float(state), str(state), (state,), 1 - state, 2, -1]:
                    if {**others, key: lacks[state]} != lacks or type(key) is not int:
                        changed.append({**others, key: lacks[state]})
                changed.append(others)
            for wrong in changed:
                thing = copy.deepcopy(DICTS)
                thing[place] = wrong
                self.assertIs(shows_led(MACHINE, (PLAIN, thing)), False)

    def test_zero_lacks_that_are_no_integers(self):
        one, plain = (2, "a", ((((1, 0),),),)), (2, "a", (((1, 0),),))
        for lacks in [{False: 0}, {0: False}, {0.0: 0}, {0: 0.0}, {False: False}, {0: 0j}]:
            self.assertEqual(lacks, {0: 0})
            self.assertIs(shows_led(one, (plain, [lacks])), False)
        two = (2, "a", (((0, 1),), ((0, 0),)))
        self.assertIs(shows_led(two, (two, [{0: 0}, {1: 0}])), True)
        for lacks in [{True: 0}, {1: False}, {1.0: 0}]:
            self.assertIs(shows_led(two, (two, [{0: 0}, lacks])), False)

    def test_the_first_dict(self):
        # Whatever the lack is, pays and dicts go on in the same way.
        one, plain = (2, "a", ((((1, 0), (0, 0)),),)), (2, "a", (((1, 0),),))
        self.assertIs(shows_led(one, (plain, [{0: 0}])), True)
        two = (2, "a", (((1, 1),), ((1, 1),)))
        self.assertIs(shows_led(two, (plain, [{0: 0}])), False)
        self.assertIs(shows_led(two, (plain, [{1: 0}])), False)
        self.assertIs(shows_led(two, ((2, "a", (((1, 1),), ((1, 1),))), [{0: 0}, {1: 0}])), True)

    def test_dicts_left_out_and_put_in(self):
        for place in range(3):
            self.assertIs(shows_led(MACHINE, (PLAIN, DICTS[:place] + DICTS[place + 1:])), False)
            self.assertIs(shows_led(MACHINE, (PLAIN, DICTS[:place] + [DICTS[place]] + DICTS[place:])), False)
            for other in range(3):
                if other != place:
                    thing = copy.deepcopy(DICTS)
                    thing[place], thing[other] = thing[other], thing[place]
                    self.assertIs(shows_led(MACHINE, (PLAIN, thing)), False)
        self.assertIs(shows_led(MACHINE, (PLAIN, DICTS + [{}])), False)
        self.assertIs(shows_led(MACHINE, (PLAIN, [])), False)

    def test_other_kinds(self):
        for thing in [
            [PLAIN, DICTS], (PLAIN, tuple(DICTS)), (PLAIN,), (PLAIN, DICTS, DICTS), (DICTS, PLAIN), PLAIN, DICTS,
            (list(PLAIN), DICTS), (PLAIN, {0: DICTS[0], 1: DICTS[1], 2: DICTS[2]}), (MACHINE, DICTS), (None, DICTS),
            (PLAIN, None), (PLAIN, iter(DICTS)), (PLAIN, [list(lacks.items()) for lacks in DICTS]), {PLAIN: DICTS},
            (PLAIN, [tuple(lacks) for lacks in DICTS]),
        ]:
            self.assertIs(shows_led(MACHINE, thing), False)
        for thing in other_things():
            for whole in [thing, (thing, DICTS), (PLAIN, thing), (PLAIN, DICTS[:2] + [thing]),
                          (PLAIN, DICTS[:2] + [{1: thing}])]:
                if thing is not False and not (type(thing) is int and thing == 0):
                    self.assertIs(shows_led(MACHINE, whole), False)

    def test_things_are_as_before(self):
        for thing in [(PLAIN, DICTS), (PLAIN, DICTS[::-1]), (PLAIN, [{0: 0}, {0: 2, 1: False}, {1: []}]), [[], {}]]:
            before = repr(thing)
            shows_led(MACHINE, thing)
            self.assertEqual(repr(thing), before)

    def test_machines_with_more_dicts_than_led_can_tell(self):
        self.assertIs(shows_led(EXACT[301], (led(EXACT[300]), lacks_of(EXACT[300]))), False)


if __name__ == "__main__":
    unittest.main()
