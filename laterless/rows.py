"""What a machine pays for a row: the greatest worth, a way that has it, and a table that proves it."""

from laterless.machines import is_between, is_tuple
from laterless.needs import need_choices, need_machine, need_row
from laterless.numbers import power
from laterless.things import is_exactly
from laterless.ways import tables_of, worth_along

MOST_NUMBERS = 8000


def worth_of(machine, row):
    """Return the greatest worth of all ways along the row, a number."""
    frame = need_machine(machine, "machine")
    need_row(row, frame[1])
    return worth_along(frame, row)


def best_way(machine, row):
    """Return a way of the greatest worth: a tuple (first, again) of two lists of numbers of pairs."""
    need_choices(machine, "machine")
    need_row(row, machine[1])
    picks = [table[1] for table in tables_of(machine, row)]
    many = len(row[0])
    first, state = picked(machine, row[0], 0, picks[:many])
    turns, met = [], []
    while state not in met:
        met.append(state)
        turn, state = picked(machine, row[1], state, picks[many:])
        turns.append(turn)
    known = met.index(state)
    return (first + joined(turns[:known]), joined(turns[known:]))


def shows_way(machine, row, thing):
    """Tell whether thing is a way of the greatest worth along the row."""
    need_choices(machine, "machine")
    need_row(row, machine[1])
    if not is_tuple(thing, 2, 2) or not all([type(part) == list for part in thing]):
        return False
    first, again = thing
    if len(first) < len(row[0]) or len(again) == 0 or len(again) % len(row[1]) != 0:
        return False
    if len(first) + len(again) > MOST_NUMBERS:
        return False
    steps = steps_of(machine, row, first + again)
    if steps is None or steps[len(first)][1] != steps[-1][1]:
        return False
    pays = [pay for pay, _ in steps[1:]]
    return is_worth(machine[0], pays[:len(first)], pays[len(first):], worth_along(machine, row))


def worth_table(machine, row):
    """Return the list of the dicts from states to the greatest numbers, for each place of the row."""
    frame = need_machine(machine, "machine")
    need_row(row, frame[1])
    return [table[0] for table in tables_of(frame, row)]


def shows_worth(machine, row, thing):
    """Tell whether thing is the table of the row."""
    return is_exactly(thing, worth_table(machine, row))


def picked(machine, word, state, picks):
    """Return the numbers of the pairs that picks tells along the word, and the state after it."""
    letters, states = machine[1:]
    numbers = []
    for letter, pick in zip(word, picks):
        number = pick[state]
        numbers.append(number)
        state = states[state][letters.index(letter)][number][1]
    return (numbers, state)


def joined(lists):
    """Return the members of the lists, one after the other, in one new list."""
    return [member for part in lists for member in part]


def steps_of(machine, row, numbers):
    """Return the list of pairs that the numbers take, behind (0, 0); None if a choice has no such pair."""
    letters, states = machine[1:]
    beginning, ring = row
    steps = [(0, 0)]
    for place, number in enumerate(numbers):
        letter = beginning[place] if place < len(beginning) else ring[(place - len(beginning)) % len(ring)]
        choice = states[steps[-1][1]][letters.index(letter)]
        if not is_between(number, 0, len(choice) - 1):
            return None
        steps.append(choice[number])
    return steps


def is_worth(base, first, again, worth):
    """Tell whether the pays of first, then those of again, again and again, have this worth."""
    total = total_of(base, first)
    turn = power(base, len(again)) - 1
    n = base * (total * turn + total_of(base, again))
    return n * worth[1] == worth[0] * power(base, len(first)) * turn


def total_of(base, pays):
    """Return the sum of the pays in units of the last one."""
    total = 0
    for pay in pays:
        total = base * total + pay
    return total
