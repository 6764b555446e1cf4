"""Games of two: what both can hold from each state on, and a plan that holds it."""

from laterless.errors import NoArena
from laterless.graphs import best_pays
from laterless.machines import is_between, is_pair, is_tuple
from laterless.numbers import is_above, is_number
from laterless.ways import before, ring_worths

MOST_STATES = 12
MOST_STEPS = 4
MOST_PAY = 20


def is_arena(thing):
    """Tell whether thing is an arena."""
    if not is_tuple(thing, 2, 2):
        return False
    base, states = thing
    if not is_between(base, 2, 9) or not is_tuple(states, 1, MOST_STATES):
        return False
    return all([is_state(state, len(states)) for state in states])


def values_of(arena):
    """Return the list of the numbers that both can hold from each state on."""
    need_arena(arena)
    worths = settled(arena)
    return [worths[state] for state in range(len(arena[1]))]


def plan_of(arena):
    """Return the list of the numbers of pairs that hold these numbers, one for each state."""
    need_arena(arena)
    worths = settled(arena)
    gains = [gains_of(arena, worths, state) for state in range(len(arena[1]))]
    return [told.index(worths[state]) for state, told in enumerate(gains)]


def shows_game(arena, thing):
    """Tell whether thing is the values and a plan that holds them."""
    need_arena(arena)
    if not is_tuple(thing, 2, 2) or not all([type(part) == list and len(part) == len(arena[1]) for part in thing]):
        return False
    values, plan = thing
    if not all([is_number(value) for value in values]):
        return False
    for state, value in enumerate(values):
        gains = gains_of(arena, values, state)
        # These equations have one solution only, and a plan holds it just where each of its pairs does.
        if not is_between(plan[state], 0, len(gains) - 1) or gains[plan[state]] != value:
            return False
        if any([is_better(arena, state, gain, value) for gain in gains]):
            return False
    return True


def need_arena(thing):
    """Raise NoArena if thing is no arena."""
    if not is_arena(thing):
        raise NoArena("arena is not an arena")


def is_state(thing, many):
    """Tell whether thing is a state of an arena with many states."""
    if not is_tuple(thing, 2, 2):
        return False
    side, steps = thing
    if type(side) != str or side not in ("most", "least") or not is_tuple(steps, 1, MOST_STEPS):
        return False
    return all([is_pair(pair, MOST_PAY, many) for pair in steps])


def settled(arena):
    """Return the dict from the states to the numbers that both can hold."""
    base, states = arena
    plan = [0 for _ in states]
    while True:
        worths = ring_worths(base, base, {state: answers(arena, plan, state) for state in range(len(states))})
        better = [lesser_pair(arena, worths, plan, state) for state in range(len(states))]
        # With each other plan, "most" gets less somewhere and more nowhere, and there are finitely many.
        if better == plan:
            return worths
        plan = better


def answers(arena, plan, state):
    """Return the dict from the next states that "most" can choose to the greatest pays, "least" keeping to plan."""
    side, steps = arena[1][state]
    if side == "least":
        steps = [steps[plan[state]]]
    return best_pays([(pay, side, to) for pay, to in steps])


def lesser_pair(arena, worths, plan, state):
    """Return the number of the pair that "least" takes where worths are paid from the next state on."""
    best = plan[state]
    if arena[1][state][0] == "least":
        gains = gains_of(arena, worths, state)
        for number, gain in enumerate(gains):
            if is_above(gains[best], gain):
                best = number
    return best


def gains_of(arena, worths, state):
    """Return the list of what the pairs of the state pay if worths are paid from the next state on."""
    base, states = arena
    return [before(base * pay, worths[to], base) for pay, to in states[state][1]]


def is_better(arena, state, gain, value):
    """Tell whether gain is better than value for whoever's side stands at the state."""
    return is_above(gain, value) if arena[1][state][0] == "most" else is_above(value, gain)
