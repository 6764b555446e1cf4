"""Lacks: how far each state of a machine is behind after a word, and the machine without choices made of them."""

from laterless.errors import TooGreat
from laterless.machines import is_between, is_plain, is_tuple, pays_of
from laterless.needs import need_limit, need_machine, need_word
from laterless.numbers import is_whole, lowest, power
from laterless.ways import sums_along

MOST_DICTS = 300


def lacks_after(machine, word):
    """Return the dict from the states to their lacks after the word."""
    frame = need_machine(machine, "machine")
    need_word(word, frame[1])
    spread = spread_of(frame)
    lacks = {0: 0}
    for letter in word:
        lacks = lacks_on(frame, spread, lacks, frame[1].index(letter))[1]
    return lacks


def sum_after(machine, word):
    """Return the greatest sum of all ways along the word, a number."""
    frame = need_machine(machine, "machine")
    need_word(word, frame[1])
    sums = sums_along(frame, {0: 0}, word)
    return lowest(frame[0] * max(sums.values()), power(frame[0], len(word)))


def led(machine, *, limit=MOST_DICTS):
    """Return the plain machine of the dicts of lacks, which has the same worth for every row."""
    frame = need_machine(machine, "machine")
    need_limit(limit, MOST_DICTS)
    return (frame[0], frame[1], dicts_of(frame, limit)[1])


def lacks_of(machine, *, limit=MOST_DICTS):
    """Return the list of the dicts of lacks, in the order in which words reach them first."""
    frame = need_machine(machine, "machine")
    need_limit(limit, MOST_DICTS)
    return dicts_of(frame, limit)[0]


def shows_led(machine, thing):
    """Tell whether thing is a plain machine and, for each state of it, the dict of lacks that shows its pairs."""
    frame = need_machine(machine, "machine")
    if not is_tuple(thing, 2, 2):
        return False
    plain, dicts = thing
    if not is_plain(plain) or plain[:2] != frame[:2] or type(dicts) != list or len(dicts) != len(plain[2]):
        return False
    if not all([is_lacks(part, len(frame[2])) for part in dicts]) or dicts[0] != {0: 0}:
        return False
    spread = spread_of(frame)
    for lacks, state in zip(dicts, plain[2]):
        for at, (pay, to) in enumerate(state):
            if lacks_on(frame, spread, lacks, at) != (pay, dicts[to]):
                return False
    return True


def spread_of(frame):
    """Return the greatest pay of the machine minus its least one."""
    pays = pays_of(frame)
    return max(pays) - min(pays)


def lacks_on(frame, spread, lacks, at):
    """Return what is paid at the letter with this place, and the dict of lacks after it."""
    base = frame[0]
    gains = {}
    for state in lacks:
        for pay, to in frame[2][state][at]:
            gain = pay - lacks[state]
            if to not in gains or gain > gains[to]:
                gains[to] = gain
    most = max(gains.values())
    later = {}
    for to in sorted(gains):
        lack = base * (most - gains[to])
        if lack == 0 or lack * (base - 1) < spread * base:
            later[to] = lack
    return (most, later)


def dicts_of(frame, limit):
    """Return the list of the dicts of lacks that words reach, and the states of the plain machine of them."""
    spread = spread_of(frame)
    dicts = [{0: 0}]
    places = {((0, 0),): 0}
    states = []
    while len(states) < len(dicts):
        lacks = dicts[len(states)]
        state = []
        for at in range(len(frame[1])):
            most, later = lacks_on(frame, spread, lacks, at)
            # The states stand in ascending order, so equal dicts have equal keys.
            key = tuple(later.items())
            if key not in places:
                if len(dicts) == limit:
                    raise TooGreat("there are more dicts of lacks than the limit")
                places[key] = len(dicts)
                dicts.append(later)
            state.append((most, places[key]))
        states.append(tuple(state))
    return (dicts, tuple(states))


def is_lacks(thing, many):
    """Tell whether thing is a dict, not empty, from some of many states to integers from 0 on."""
    if type(thing) != dict or len(thing) == 0:
        return False
    return all([is_between(state, 0, many - 1) and is_whole(thing[state]) and thing[state] >= 0 for state in thing])
