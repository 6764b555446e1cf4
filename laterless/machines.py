"""Letters, machines, plain machines and rules, and which words and rows are of a rule."""

from laterless.errors import NoLetters, NoRule, NoWord
from laterless.numbers import is_whole

MOST_LETTERS = 3
MOST_STATES = 4
MOST_PLAIN_STATES = 300
MOST_PAIRS = 3
MOST_PAY = 20
MOST_PLAIN_PAY = 10 ** 30
LONGEST = 1500


def is_machine(thing):
    """Tell whether thing is a machine; a plain machine is none."""
    if not is_frame(thing, MOST_STATES):
        return False
    states = thing[2]
    return all([is_choice(choice, len(states)) for state in states for choice in state])


def is_plain(thing):
    """Tell whether thing is a plain machine."""
    if not is_frame(thing, MOST_PLAIN_STATES):
        return False
    states = thing[2]
    return all([is_pair(pair, MOST_PLAIN_PAY, len(states)) for state in states for pair in state])


def is_rule(thing):
    """Tell whether thing is a rule."""
    if not is_tuple(thing, 2, 2):
        return False
    letters, states = thing
    if not is_letters(letters) or not is_table(states, letters, MOST_STATES):
        return False
    return all([is_way_on(state, len(states)) for state in states])


def free_rule(letters):
    """Return the rule with one state that allows all letters."""
    if not is_letters(letters):
        raise NoLetters("letters are not 1 to 3 ascending letters from a to z")
    return (letters, (tuple([0 for _ in letters]),))


def is_of(rule, word, *, ring=None):
    """Tell whether the word, or with ring the row (word, ring), is of the rule."""
    if not is_rule(rule):
        raise NoRule("rule is not a rule")
    if not is_text(word, rule[0]):
        raise NoWord("word is not a string of at most 1500 letters of the rule")
    if ring is not None and (not is_text(ring, rule[0]) or len(ring) == 0):
        raise NoWord("ring is not a string of 1 to 1500 letters of the rule")
    state = state_after(rule, 0, word)
    if ring is not None:
        # Before these turns and after each of them the rule is in one state more
        # often than it has states, so in one of them twice: the turns never end.
        for _ in rule[1]:
            state = state_after(rule, state, ring)
    return state is not None


def state_after(rule, state, word):
    """Return the state after the word, None if a letter is not allowed; None stays None."""
    letters, states = rule
    for letter in word:
        if state is None:
            return None
        state = states[state][letters.index(letter)]
    return state


def with_choices(plain):
    """Return the plain machine with a choice of one pair instead of each pair."""
    base, letters, states = plain
    return (base, letters, tuple([tuple([(pair,) for pair in state]) for state in states]))


def pays_of(machine):
    """Return the list of the pays of all pairs, these standing in choices."""
    return [pair[0] for state in machine[2] for choice in state for pair in choice]


def is_letters(thing):
    """Tell whether thing is letters."""
    if type(thing) != str or not 1 <= len(thing) <= MOST_LETTERS:
        return False
    ascending = [thing[at] < thing[at + 1] for at in range(len(thing) - 1)]
    return all(ascending) and "a" <= thing[0] and thing[-1] <= "z"


def is_text(thing, letters):
    """Tell whether thing is a string of letters that may stand in a row."""
    if type(thing) != str or len(thing) > LONGEST:
        return False
    return all([letter in letters for letter in thing])


def is_row(thing, letters):
    """Tell whether thing is a row of these letters."""
    if not is_tuple(thing, 2, 2) or not all([is_text(part, letters) for part in thing]):
        return False
    return thing[1] != ""


def is_frame(thing, most):
    """Tell whether thing is a base, letters and a table of at most most states."""
    if not is_tuple(thing, 3, 3):
        return False
    base, letters, states = thing
    return is_between(base, 2, 9) and is_letters(letters) and is_table(states, letters, most)


def is_table(thing, letters, most):
    """Tell whether thing is 1 to most states, each a tuple with a member for each letter."""
    if not is_tuple(thing, 1, most):
        return False
    return all([is_tuple(state, len(letters), len(letters)) for state in thing])


def is_choice(thing, many):
    """Tell whether thing is a choice of a machine with many states."""
    if not is_tuple(thing, 1, MOST_PAIRS):
        return False
    # Only what surely are pairs of integers can be told apart by a set.
    return all([is_pair(pair, MOST_PAY, many) for pair in thing]) and len(set(thing)) == len(thing)


def is_pair(thing, most, many):
    """Tell whether thing is a pay at most most from 0 and one of many states."""
    if not is_tuple(thing, 2, 2):
        return False
    pay, state = thing
    return is_between(pay, -most, most) and is_between(state, 0, many - 1)


def is_way_on(state, many):
    """Tell whether a tuple allows some letter, and leads to one of many states at each."""
    targets = [target for target in state if target is not None]
    return len(targets) > 0 and all([is_between(target, 0, many - 1) for target in targets])


def is_tuple(thing, least, most):
    """Tell whether thing is a tuple of least to most members."""
    return type(thing) == tuple and least <= len(thing) <= most


def is_between(thing, low, high):
    """Tell whether thing is an integer from low to high."""
    return is_whole(thing) and low <= thing <= high
