"""How far worths reach: how much one machine is above another one at most, and the least and the greatest worths."""

from laterless.errors import NoWord, TooGreat
from laterless.graphs import best_row, most_paid
from laterless.lacks import led
from laterless.machines import is_of, is_row, is_tuple, state_after, with_choices
from laterless.needs import need_contest, need_limit, need_machine, need_rule, need_word
from laterless.numbers import difference, is_above, is_number, is_whole, negative, power
from laterless.plains import along, negated
from laterless.ways import before, worth_along

MOST_TRIPLES = 600
# No rule has more than 4 states, no plain machine more than 300.
MOST_ENDS = 1200
FIRST = (0, 0, 0)


def apart(one, other, rule, *, limit=MOST_TRIPLES):
    """Return the greatest difference of the worths of one and other over the rows of the rule, and a row for it."""
    graph, worths = solved(one, other, rule, limit)
    return (worths[FIRST], best_row(one[0], graph, worths, FIRST))


def apart_table(one, other, rule, *, limit=MOST_TRIPLES):
    """Return the ascending list of all triples that can be reached, each with the greatest difference from there on."""
    graph, worths = solved(one, other, rule, limit)
    return [triple + (worths[triple],) for triple in sorted(graph)]


def shows_apart(one, other, rule, thing):
    """Tell whether thing is the greatest difference, a row that reaches it, and the table in any order."""
    first, second = need_contest(one, other, rule)
    if not is_tuple(thing, 3, 3):
        return False
    number, row, table = thing
    if not is_number(number) or not is_row(row, first[1]) or not is_of(rule, row[0], ring=row[1]):
        return False
    if type(table) != list or not all([is_told(part) for part in table]):
        return False
    if difference(worth_along(first, row), worth_along(second, row)) != number:
        return False
    try:
        graph = triples_from(first, led(other), rule, FIRST, len(table))
    except TooGreat:
        return False
    worths = {part[:3]: part[3] for part in table}
    if len(graph) != len(table) or not all([triple in worths for triple in graph]):
        return False
    # These equations have one solution only.
    return worths[FIRST] == number and all([is_solved(first[0], graph[triple], worths, triple) for triple in graph])


def span(machine, rule, word=""):
    """Return the least and the greatest worth of the rows of the rule that begin with the word, each with a row."""
    frame = need_machine(machine, "machine")
    need_rule(rule, frame[1])
    need_word(word, frame[1])
    if state_after(rule, 0, word) is None:
        raise NoWord("word is not of the rule")
    return ends_after(led(machine), rule, word)


def ends_after(plain, rule, word):
    """Return the least and the greatest worth of the rows of the rule that begin with the word, each with a row."""
    return (least_after(plain, rule, word), most_after(plain, rule, word))


def least_after(plain, rule, word):
    """Return the least worth of the rows of the rule that begin with the word, and a row for it."""
    number, row = most_after(negated(plain), rule, word)
    return (negative(number), row)


def most_after(plain, rule, word):
    """Return the greatest worth of the rows of the rule that begin with the word, and a row for it."""
    base, letters = plain[:2]
    total, state = along(plain, word)
    first = (state_after(rule, 0, word), state, 0)
    nothing = (base, letters, (tuple([(0, 0) for _ in letters]),))
    graph = triples_from(with_choices(plain), nothing, rule, first, MOST_ENDS)
    worths = most_paid(base, graph)
    beginning, ring = best_row(base, graph, worths, first)
    return (before(base * total, worths[first], power(base, len(word))), (word + beginning, ring))


def solved(one, other, rule, limit):
    """Return the graph of the triples and the dict from them to the greatest differences from there on."""
    first = need_contest(one, other, rule)[0]
    need_limit(limit, MOST_TRIPLES)
    graph = triples_from(first, led(other), rule, FIRST, limit)
    return (graph, most_paid(first[0], graph))


def triples_from(one, plain, rule, first, limit):
    """Return the dict from the triples that are reached from the first one to the lists of their steps."""
    graph = {}
    seen = {first: True}
    waiting = [first]
    while waiting:
        triple = waiting.pop()
        steps = steps_on(one, plain, rule, triple)
        graph[triple] = steps
        for _, _, later in steps:
            if later not in seen:
                if len(seen) >= limit:
                    raise TooGreat("there are more triples than the limit")
                seen[later] = True
                waiting.append(later)
    return graph


def steps_on(one, plain, rule, triple):
    """Return the list of the steps (pay, letter, triple) from a triple, the pay being what one pays above plain."""
    place, state, rival = triple
    steps = []
    for at, letter in enumerate(one[1]):
        after = rule[1][place][at]
        if after is not None:
            loss, end = plain[2][rival][at]
            for pay, to in one[2][state][at]:
                steps.append((pay - loss, letter, (after, to, end)))
    return steps


def is_told(thing):
    """Tell whether thing is a tuple of three integers and a number."""
    return is_tuple(thing, 4, 4) and is_number(thing[3]) and all([is_whole(part) for part in thing[:3]])


def is_solved(base, steps, worths, triple):
    """Tell whether the number of the triple is the greatest one that its steps lead to."""
    gains = [before(base * pay, worths[later], base) for pay, _, later in steps]
    return worths[triple] in gains and not any([is_above(gain, worths[triple]) for gain in gains])
