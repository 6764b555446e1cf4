"""Worths of plain machines, what is kept for operators, games and places, reckoned with fractions the slow way."""

import itertools
from fractions import Fraction

from reckoning import choice_of, words


def fraction(number):
    return Fraction(*number)


def step_on(plain, state, letter):
    """What a plain machine pays at the letter, and its next state; pays may be tuples (n, d)."""
    pay, to = plain[2][state][plain[1].index(letter)]
    return (Fraction(*pay) if isinstance(pay, tuple) else pay), to


def plain_worth(plain, row, state=0):
    """The worth of the row for a plain machine that begins in this state: turn by turn until a state comes again."""
    total, unit = Fraction(0), Fraction(1)
    for letter in row[0]:
        pay, state = step_on(plain, state, letter)
        total += pay * unit
        unit /= plain[0]
    met = {}
    while state not in met:
        met[state] = (total, unit)
        for letter in row[1]:
            pay, state = step_on(plain, state, letter)
            total += pay * unit
            unit /= plain[0]
    early, ahead = met[state]
    return early + (total - early) / (1 - unit / ahead)


def sum_along(plain, word):
    """The sum along the word, and the state after it."""
    total, unit, state = Fraction(0), Fraction(1), 0
    for letter in word:
        pay, state = step_on(plain, state, letter)
        total += pay * unit
        unit /= plain[0]
    return total, state


def short_rows(letters, many):
    """All rows of a word of at most so many letters and then the first letter alone."""
    return [(word, letters[0]) for word in words(letters, many)]


def differences(plain, state, many):
    """What is paid from a state on for all short rows, less what is paid for the row of the first letter alone.

    States with as many letters as there are states, at least, pay the same but for a constant if these agree.
    """
    first = plain_worth(plain, ("", plain[1][0]), state)
    return tuple([plain_worth(plain, row, state) - first for row in short_rows(plain[1], many)])


def triples(one, plain, rule):
    """All triples that can be reached."""
    found = [(0, 0, 0)]
    for place, state, rival in found:
        for letter, after in zip(rule[0], rule[1][place]):
            for _, to in choice_of(one, state, letter) if after is not None else []:
                triple = (after, to, step_on(plain, rival, letter)[1])
                if triple not in found:
                    found.append(triple)
    return found


def best_on(one, plain, rule, triple, worths):
    """The greatest difference from the triple on if worths are those of the triples."""
    place, state, rival = triple
    found = []
    for letter, after in zip(rule[0], rule[1][place]):
        if after is not None:
            loss, end = step_on(plain, rival, letter)
            for pay, to in choice_of(one, state, letter):
                found.append(pay - loss + worths[after, to, end] / one[0])
    return max(found)


def places(plain, rule, number, most=600):
    """All places within the bounds that words of the rule reach, with their steps; some more than most of them."""
    pays = [pay for state in plain[2] for pay, _ in state]
    base = plain[0]
    low, high = Fraction(min(pays) * base, base - 1), Fraction(max(pays) * base, base - 1)
    left = fraction(number)
    found = {}
    waiting = [(0, 0, left)] if low <= left <= high else []
    while waiting and len(found) <= most:
        place = waiting.pop()
        if place not in found:
            found[place] = []
            for letter, after in zip(rule[0], rule[1][place[0]]):
                pay, to = step_on(plain, place[1], letter)
                later = base * (place[2] - pay)
                if after is not None and low <= later <= high:
                    found[place].append((after, to, later))
            waiting.extend(found[place])
    return found


def ranks(steps):
    """The length of the longest way on from each place, where no way goes on for ever."""
    found = {place: 0 for place in steps}
    for _ in range(len(steps) + 1):
        later = {place: max([1 + found[to] for to in steps[place]], default=0) for place in steps}
        if later == found:
            return found
        found = later
    return None


def held(base, states, choice):
    """What is paid from each state on if each takes the pair that choice tells."""
    found = []
    for state in range(len(states)):
        total, unit, met = Fraction(0), Fraction(1), {}
        while state not in met:
            met[state] = (total, unit)
            pay, state = states[state][1][choice[state]]
            total += pay * unit
            unit /= base
        early, ahead = met[state]
        found.append(early + (total - early) / (1 - unit / ahead))
    return found


def choices(states, side):
    """All ways to choose a pair in the states of a side, as dicts."""
    mine = [state for state in range(len(states)) if states[state][0] == side]
    for numbers in itertools.product(*[range(len(states[state][1])) for state in mine]):
        yield dict(zip(mine, numbers))


def against_all(arena, plan, side):
    """What the plan of a side holds from each state on, against every fixed plan of the other one."""
    base, states = arena
    mine = {state: plan[state] for state in range(len(states)) if states[state][0] == side}
    rivals = choices(states, "least" if side == "most" else "most")
    worst = min if side == "most" else max
    return [worst(part) for part in zip(*[held(base, states, {**mine, **rival}) for rival in rivals])]


def game(arena):
    """The values from all plans of "most" against all plans of "least"."""
    return [max(part) for part in zip(*[
        against_all(arena, choice, "most") for choice in choices(arena[1], "most")])]


def plain_by(base, letters, first, step):
    """The plain machine of all that step leads to from first, in the order of the words that reach it first."""
    found, states = [first], []
    for place in found:
        state = []
        for letter in letters:
            pay, later = step(place, letter)
            if later not in found:
                found.append(later)
            state.append((pay, found.index(later)))
        states.append(tuple(state))
    return (base, letters, tuple(states))


def kept_sum(a, b):
    def step(place, letter):
        (x, p), (y, q) = step_on(a, place[0], letter), step_on(b, place[1], letter)
        return x + y, (p, q)
    return plain_by(a[0], a[1], (0, 0), step)


def kept_multiple(a, k):
    return a[:2] + (tuple([tuple([(k * pay, to) for pay, to in state]) for state in a[2]]),)


def kept_raised(a, k):
    """More than the pays of state 0, where no word comes back to it; else a state of its own called "first"."""
    comes_back = any(to == 0 for state in a[2] for _, to in state)

    def step(place, letter):
        if place != "first":
            return step_on(a, place, letter)
        pay, to = step_on(a, 0, letter)
        return pay + k, to

    if k == 0:
        return a
    if comes_back:
        return plain_by(a[0], a[1], "first", step)
    return a[:2] + ((tuple([(pay + k, to) for pay, to in a[2][0]]),) + a[2][1:],)


def kept_after(a, word):
    total, state = sum_along(a, word)
    begun = plain_by(a[0], a[1], state, lambda place, letter: step_on(a, place, letter))
    return kept_raised(begun, int(a[0] ** len(word) * total))


def kept_greater(a, b):
    base = a[0]
    pays = [pay for states in (a[2], b[2]) for state in states for pay, _ in state]
    over = max(pays) - min(pays)

    def step(place, letter):
        if place[0] == "a":
            pay, to = step_on(a, place[1], letter)
            return pay, ("a", to)
        if place[0] == "b":
            pay, to = step_on(b, place[1], letter)
            return pay, ("b", to)
        (x, p), (y, q) = step_on(a, place[0], letter), step_on(b, place[1], letter)
        pay = max(x, y - place[2]) if place[2] >= 0 else max(x + place[2], y)
        lead = base * (place[2] + x - y)
        if lead * (base - 1) > over * base:
            return pay, ("a", p)
        if -lead * (base - 1) > over * base:
            return pay, ("b", q)
        return pay, (p, q, lead)

    return plain_by(base, a[1], (0, 0, 0), step)


def kept_lesser(a, b):
    return kept_multiple(kept_greater(kept_multiple(a, -1), kept_multiple(b, -1)), -1)
