"""Greatest worths of ways along words and rows, for machines in which all pairs stand in choices."""

from math import gcd, lcm

from laterless.numbers import is_above, lowest, power


def sums_along(machine, sums, word):
    """Return the dict from states to the greatest sums after the word, sums being the dict ahead of it.

    All sums are integers: they are told in units of the last step's pay, before the word and after it.
    """
    base, letters, states = machine
    for letter in word:
        at = letters.index(letter)
        later = {}
        for state in sums:
            for pay, to in states[state][at]:
                total = base * sums[state] + pay
                if to not in later or total > later[to]:
                    later[to] = total
        sums = later
    return sums


def worth_along(machine, row):
    """Return the greatest worth of all ways along the row."""
    base = machine[0]
    beginning, ring = row
    sums = sums_along(machine, {0: 0}, beginning)
    worths = ring_worths(base, power(base, len(ring)), turns_of(machine, ring, sums))
    unit = power(base, len(beginning))
    best = None
    for state in sums:
        worth = before(base * sums[state], worths[state], unit)
        if best is None or is_above(worth, best):
            best = worth
    return best


def tables_of(machine, row):
    """Return a list with, for each place of the row, two dicts from all states that read the letter there.

    They lead to the greatest number paid from there on, and to the number of a pair that pays it.
    """
    base = machine[0]
    beginning, ring = row
    sums = sums_along(machine, {0: 0}, beginning)
    turns = turns_of(machine, ring, sums)
    worths = ring_worths(base, power(base, len(ring)), turns)
    ahead = tables_along(machine, [0], beginning, {state: worths[state] for state in sums})
    return ahead + tables_along(machine, sorted(turns), ring, worths)


def turns_of(machine, ring, starts):
    """Return the dict from all states in which the ring begins to the dict of their sums after one turn."""
    turns = {}
    waiting = sorted(starts)
    while waiting:
        state = waiting.pop()
        if state not in turns:
            turns[state] = sums_along(machine, {state: 0}, ring)
            waiting.extend(list(turns[state]))
    return turns


def ring_worths(base, unit, turns):
    """Return the dict from the states to the greatest number paid from there on, turn by turn.

    turns leads from each state to the dict of sums by states after one turn, unit is base ** turn.
    """
    plan = {state: min(turns[state]) for state in turns}
    while True:
        worths = plan_worths(base, unit, turns, plan)
        better = better_plan(base, turns, plan, worths)
        # Each other plan pays more somewhere and less nowhere, and there are finitely many.
        if better == plan:
            return worths
        plan = better


def better_plan(base, turns, plan, worths):
    """Return the plan that pays most for one turn where worths are paid behind it; ties stay as they are."""
    better = {}
    for state in turns:
        best = plan[state]
        most = raised(base * turns[state][best], worths[best])
        for end in turns[state]:
            if end != best:
                rival = raised(base * turns[state][end], worths[end])
                if is_above(rival, most):
                    best, most = end, rival
        better[state] = best
    return better


def plan_worths(base, unit, turns, plan):
    """Return the dict from states to what is paid if each turn ends in the state that plan tells."""
    worths = {}
    for start in plan:
        path = {}
        state = start
        while state not in worths and state not in path:
            path[state] = True
            state = plan[state]
        if state not in worths:
            worths[state] = cycle_worth(base, unit, turns, plan, state)
        for early in reversed(list(path)):
            if early not in worths:
                worths[early] = before(base * turns[early][plan[early]], worths[plan[early]], unit)
    return worths


def cycle_worth(base, unit, turns, plan, start):
    """Return what is paid from start on if plan leads back to it again and again."""
    state = plan[start]
    total, scale = base * turns[start][state], unit
    while state != start:
        total = total * unit + base * turns[state][plan[state]]
        scale = scale * unit
        state = plan[state]
    return lowest(total, scale - 1)


def tables_along(machine, starts, word, worths):
    """Return the tables for the places of a word that is read from starts on, worths being paid behind it."""
    base, letters, states = machine
    reached = states_along(machine, starts, word)
    # With one divisor for all states of a place, pairs are compared by whole numbers.
    divisor = 1
    for end in worths:
        divisor = lcm(divisor, worths[end][1])
    tops = {end: worths[end][0] * (divisor // worths[end][1]) for end in worths}
    tables = []
    for place in reversed(range(len(word))):
        at = letters.index(word[place])
        divisor = divisor * base
        now, picks, sums = {}, {}, {}
        for state in reached[place]:
            gains = [pair[0] * divisor + tops[pair[1]] for pair in states[state][at]]
            sums[state] = max(gains)
            picks[state] = gains.index(sums[state])
            pay, to = states[state][at][picks[state]]
            now[state] = before(base * pay, worths[to], base)
        tables.append((now, picks))
        worths, tops = now, sums
    return tables[::-1]


def states_along(machine, starts, word):
    """Return a list with, for each place of the word, the ascending list of the states that read its letter."""
    letters, states = machine[1:]
    reached = []
    current = starts
    for letter in word:
        reached.append(current)
        at = letters.index(letter)
        current = sorted({pair[1] for state in current for pair in states[state][at]})
    return reached


def raised(total, number):
    """Return the number that is higher by the integer total."""
    # No gcd: what divides both parts of the sum divides both parts of the number.
    return (total * number[1] + number[0], number[1])


def before(total, number, unit):
    """Return the number (total + number) / unit, total and unit being integers."""
    n, d = raised(total, number)
    # n and d have no common divisor, so that of n and unit * d is one of unit, which is quickly found.
    common = gcd(n, unit)
    return (n // common, unit // common * d)
