"""What is left of a number after a word, and whether a number is the worth of a row."""

from laterless.errors import HasRow, TooGreat
from laterless.graphs import row_along
from laterless.machines import is_tuple
from laterless.needs import need_limit, need_plain, need_rule
from laterless.numbers import is_number, is_whole, lowest, need_number

MOST_PLACES = 600


def row_with(plain, rule, number, *, limit=MOST_PLACES):
    """Return a row of the rule whose worth is the number, or None."""
    need_search(plain, rule, number)
    need_limit(limit, MOST_PLACES)
    graph = places_from(plain, rule, number, limit)
    ranks = ranks_of(graph)
    chosen = {}
    for place in graph:
        for letter, later in graph[place]:
            if later not in ranks:
                chosen[place] = (letter, later)
    # Who can go on for ever can do so from the next place as well.
    return row_along(chosen, (0, 0, number)) if chosen else None


def bars_of(plain, rule, number, *, limit=MOST_PLACES):
    """Return the ascending list of all places within the bounds, each with its rank, if there is no such row."""
    need_search(plain, rule, number)
    need_limit(limit, MOST_PLACES)
    graph = places_from(plain, rule, number, limit)
    if len(ranks_of(graph)) < len(graph):
        raise HasRow("there is a row with this worth")
    return bars_in(graph)


def shows_none(plain, rule, number, thing):
    """Tell whether thing is the list of all places within the bounds, each with its rank, in any order."""
    need_search(plain, rule, number)
    if type(thing) != list or not all([is_bar(part) for part in thing]):
        return False
    try:
        graph = places_from(plain, rule, number, len(thing))
    except TooGreat:
        return False
    return len(ranks_of(graph)) == len(graph) and sorted(thing) == bars_in(graph)


def need_search(plain, rule, number):
    """Raise the error that is due first for a plain machine, a rule and a number."""
    need_plain(plain, "plain")
    need_rule(rule, plain[1])
    need_number(number, "number")


def bars_in(graph):
    """Return the ascending list of the places, each with its rank; no place may be one to go on from for ever."""
    ranks = ranks_of(graph)
    return sorted([place + (ranks[place],) for place in graph])


def places_from(plain, rule, number, limit):
    """Return the dict from the places within the bounds to the lists of the steps (letter, place) from there."""
    pays = [pay for state in plain[2] for pay, _ in state]
    low, high = min(pays), max(pays)
    waiting = []
    if is_within(plain[0], low, high, number):
        waiting.append((0, 0, number))
    graph = {}
    seen = {place: True for place in waiting}
    while waiting:
        if len(seen) > limit:
            raise TooGreat("there are more places than the limit")
        place = waiting.pop()
        steps = [step for step in steps_on(plain, rule, place) if is_within(plain[0], low, high, step[1][2])]
        graph[place] = steps
        for _, later in steps:
            if later not in seen:
                seen[later] = True
                waiting.append(later)
    return graph


def steps_on(plain, rule, place):
    """Return the list of the steps (letter, place) from a place, within the bounds or not."""
    at, state, (n, d) = place
    base, letters, states = plain
    steps = []
    for letter, after, (pay, to) in zip(letters, rule[1][at], states[state]):
        if after is not None:
            steps.append((letter, (after, to, lowest(base * (n - pay * d), d))))
    return steps


def is_within(base, low, high, number):
    """Tell whether the number is neither less than what always the pay low, nor more than what high is worth."""
    n, d = number
    return low * base * d <= n * (base - 1) <= high * base * d


def ranks_of(graph):
    """Return the dict from the places to their ranks, without those from which one can go on for ever."""
    ahead = {}
    for place in graph:
        ahead[place] = []
    for place in graph:
        for _, later in graph[place]:
            ahead[later].append(place)
    open_steps = {place: len(graph[place]) for place in graph}
    ranks = {}
    waiting = [place for place in graph if open_steps[place] == 0]
    done = 0
    while done < len(waiting):
        place = waiting[done]
        done = done + 1
        ranks[place] = max([1 + ranks[later] for _, later in graph[place]], default=0)
        for early in ahead[place]:
            open_steps[early] = open_steps[early] - 1
            if open_steps[early] == 0:
                waiting.append(early)
    return ranks


def is_bar(thing):
    """Tell whether thing is a tuple of two integers, a number and an integer."""
    if not is_tuple(thing, 4, 4) or not is_number(thing[2]):
        return False
    return all([is_whole(part) for part in [thing[0], thing[1], thing[3]]])
