"""Machines, rules, words and rows for the tests: the document's, some with a point, and many of a fixed series."""

import random

from reckoning import rule_states

# The document's machine, and one for each of its points.
MACHINE = (2, "ab", ((((0, 0), (1, 1)), ((1, 0),)), (((2, 1),), ((0, 0),))))
# Whatever way is taken, the worth is the same.
TIES = (3, "ab", ((((1, 0), (1, 1)), ((0, 1), (0, 0))), (((1, 1), (1, 0)), ((0, 0),))))
# Whichever pair is taken, it goes to the next state: four turns of a ring of odd length make one round.
ROUND = (9, "ab", tuple([(((20 - at, (at + 1) % 4),), ((at, at), (at - 1, at))) for at in range(4)]))

# These have just so many dicts of lacks.
EXACT = {
    300: (2, "abc", (
        (((6, 2), (-18, 3)), ((10, 0), (1, 3)), ((-3, 1),)),
        (((-12, 3),), ((16, 2), (17, 3)), ((17, 1),)),
        (((15, 3), (-16, 2), (-2, 1)), ((15, 2), (-19, 1), (-16, 2)), ((2, 0), (4, 3), (-18, 0))),
        (((18, 1), (-4, 0)), ((-1, 0), (-7, 1)), ((-15, 3),)),
    )),
    301: (2, "abc", (
        (((-14, 2), (-15, 1)), ((-16, 2),), ((-12, 1), (-15, 3), (5, 0))),
        (((1, 3), (-6, 2)), ((17, 2),), ((-4, 1), (20, 2))),
        (((-19, 1), (18, 3)), ((12, 1),), ((18, 0),)),
        (((-7, 2),), ((10, 0), (4, 2)), ((-9, 2), (-3, 2))),
    )),
}


def series(name):
    """A source of the same values each time."""
    return random.Random(name)


def letters_of(source):
    return "".join(sorted(source.sample("abcxyz", source.randint(1, 3))))


def machine_of(source, base=None, letters=None, many=None, most=None):
    """A machine with choices."""
    base = base or source.randint(2, 9)
    letters = letters or letters_of(source)
    many = many or source.randint(1, 4)
    most = most or source.choice([1, 2, 5, 20])
    states = []
    for _ in range(many):
        choices = []
        for _ in letters:
            pairs = [(pay, state) for pay in range(-most, most + 1) for state in range(many)]
            choices.append(tuple(source.sample(pairs, source.randint(1, 3))))
        states.append(tuple(choices))
    return (base, letters, tuple(states))


def plain_of(source, base=None, letters=None, many=None, most=None):
    """A plain machine."""
    base = base or source.randint(2, 9)
    letters = letters or letters_of(source)
    many = many or source.choice([1, 2, 3, 5, 8])
    most = most or source.choice([1, 5, 20, 10 ** 30])
    states = [
        tuple([(source.randint(-most, most), source.randrange(many)) for _ in letters])
        for _ in range(many)
    ]
    return (base, letters, tuple(states))


def rule_of(source, letters, many=None):
    """A rule, often with letters that are barred."""
    many = many or source.randint(1, 4)
    states = []
    while len(states) < many:
        state = tuple([source.choice([None] + list(range(many))) for _ in letters])
        if state.count(None) < len(letters):
            states.append(state)
    return (letters, tuple(states))


def word_of(source, letters, many):
    return "".join(source.choices(letters, k=many))


def row_of(source, letters, most=6):
    return (word_of(source, letters, source.randint(0, most)), word_of(source, letters, source.randint(1, most)))


def step(source, rule, state):
    """A letter that the rule allows in this state, and the state after it."""
    return source.choice([(letter, to) for letter, to in zip(rule[0], rule[1][state]) if to is not None])


def rows_that_begin(source, rule, word, many):
    """Rows of the rule that begin with the word, and go on at random until a state of the rule comes again."""
    found = []
    for _ in range(many):
        state, text, met = rule_states(rule, word)[-1], word, {}
        for _ in range(source.randint(0, 4)):
            letter, state = step(source, rule, state)
            text += letter
        while state not in met:
            met[state] = len(text)
            letter, state = step(source, rule, state)
            text += letter
        found.append((text[:met[state]], text[met[state]:]))
    return found


def spellings(row):
    """The same row, spelt in other ways."""
    beginning, ring = row
    turned = ring[1:] + ring[:1]
    return [
        (beginning, ring * 2), (beginning, ring * 3), (beginning + ring, ring), (beginning + ring * 2, ring * 2),
        (beginning + ring[0], turned), (beginning + ring + ring[0], turned * 3),
    ]


def wheel(base, many, high=1, low=-1):
    """A plain machine that goes round many states and pays nothing; one more, that no word reaches, pays."""
    return (base, "a", tuple([((0, (at + 1) % many),) for at in range(many)]) + (((high, many),), ((low, many),)))


def plains_and_others(name, many):
    """Many machines of all bases and numbers of letters, each third of them a plain one."""
    source = series(name)
    found = []
    for at in range(many):
        base, letters = 2 + at % 8, "abc"[:1 + at // 8 % 3]
        if at % 3 == 2:
            found.append(plain_of(source, base, letters))
        else:
            found.append(machine_of(source, base, letters))
    return found


def word_of_rule(source, rule, many):
    """A word of the rule."""
    state, text = 0, ""
    for _ in range(many):
        letter, state = step(source, rule, state)
        text += letter
    return text


def twins_of(source, plain, many):
    """The plain machine with so many more states, each paying a constant more than another one for every row."""
    base, letters, states = plain
    found = [list(state) for state in states]
    for _ in range(many):
        like = source.randrange(len(found))
        extra = base * source.randint(-3, 3)
        found.append([(pay + extra, to) for pay, to in found[like]])
        for state in found:
            for at, (pay, to) in enumerate(state):
                if to == like and source.random() < 0.5:
                    state[at] = (pay - extra // base, len(found) - 1)
    return (base, letters, tuple([tuple(state) for state in found]))


def arena_of(source, many=None, sides=("most", "least"), most=None):
    """An arena, often with equal pairs."""
    many = many or source.randint(1, 4)
    most = most or source.choice([1, 3, 20])
    states = []
    for _ in range(many):
        steps = [(source.randint(-most, most), source.randrange(many)) for _ in range(source.randint(1, 4))]
        if source.random() < 0.3:
            steps[-1] = steps[0]
        states.append((source.choice(sides), tuple(steps)))
    return (source.randint(2, 9), tuple(states))
