"""Plain machines that pay the same for every row, and the least one among them."""

from laterless.errors import HasRow
from laterless.graphs import most_paid
from laterless.machines import is_between, is_tuple
from laterless.needs import need_limit, need_plain, need_plains, need_state
from laterless.numbers import difference, is_whole
from laterless.plains import pairs_reached
from laterless.ways import before

MOST_PAIRS = 600


def like_by(plain, p, q):
    """Return the number that is paid more from q on than from p on for every row, or None."""
    need_plain(plain, "plain")
    need_state(p, plain, "p")
    need_state(q, plain, "q")
    worths = first_worths(plain)
    kinds = rounds_of(own_pays(plain, worths), targets_of(plain, 0))[-1]
    return difference(worths[q], worths[p]) if kinds[p] == kinds[q] else None


def least_of(plain):
    """Return a first number and the machine with the fewest states that pays the rest of the worth of each row."""
    need_plain(plain, "plain")
    worths = first_worths(plain)
    pays = own_pays(plain, worths)
    targets = targets_of(plain, 0)
    kinds = rounds_of(pays, targets)[-1]
    places = {kinds[0]: 0}
    order = [0]
    states = []
    while len(states) < len(order):
        now = order[len(states)]
        for to in targets[now]:
            kind = kinds[to]
            if kind not in places:
                places[kind] = len(order)
                order.append(to)
        states.append(tuple([(pay, places[kinds[to]]) for pay, to in zip(pays[now], targets[now])]))
    return (worths[0], plain[0], plain[1], tuple(states))


def unlike(plain, other):
    """Return a row for which two plain machines have not the same worth, or None."""
    need_plains(plain, other)
    return row_apart(plain, other)


def same_table(plain, other, *, limit=MOST_PAIRS):
    """Return the ascending list of the pairs of states that one word reaches, each with what plain is ahead by."""
    need_plains(plain, other)
    need_limit(limit, MOST_PAIRS)
    pairs = pairs_reached(plain, other, limit)
    if row_apart(plain, other) is not None:
        raise HasRow("there is a row for which the worths differ")
    leads = {(0, 0): 0}
    for pair in pairs:
        lead = leads[pair]
        for p, q, later in leads_on(plain, other, pair, lead):
            leads[(p, q)] = later
    return sorted([pair + (leads[pair],) for pair in pairs])


def shows_same(plain, other, thing):
    """Tell whether thing is a list of pairs with integers, closed under letters, that shows that the worths agree."""
    need_plains(plain, other)
    if type(thing) != list or not all([is_lead(part, plain, other) for part in thing]):
        return False
    leads = {part[:2]: part[2] for part in thing}
    if len(leads) != len(thing) or (0, 0) not in leads or leads[(0, 0)] != 0:
        return False
    for pair in leads:
        for p, q, lead in leads_on(plain, other, pair, leads[pair]):
            if (p, q) not in leads or leads[(p, q)] != lead:
                return False
    return True


def leads_on(plain, other, pair, lead):
    """Return the list of the tuples (state of plain, state of other, lead) that the letters lead to."""
    return [
        (left[1], right[1], plain[0] * (lead + left[0] - right[0]))
        for left, right in zip(plain[2][pair[0]], other[2][pair[1]])
    ]


def is_lead(thing, plain, other):
    """Tell whether thing is a tuple of a state of plain, a state of other and an integer."""
    if not is_tuple(thing, 3, 3) or not is_whole(thing[2]):
        return False
    return is_between(thing[0], 0, len(plain[2]) - 1) and is_between(thing[1], 0, len(other[2]) - 1)


def first_worths(plain):
    """Return the list of what is paid from each state on for the row that has the first letter alone."""
    base, letters, states = plain
    graph = {place: [(state[0][0], letters[0], state[0][1])] for place, state in enumerate(states)}
    worths = most_paid(base, graph)
    return [worths[place] for place in range(len(states))]


def own_pays(plain, worths):
    """Return the list of the pays of each state where, by what each state pays more first, all worths of it are 0.

    Two states then pay the same for every row if what is paid from them on differs by a constant.
    """
    base = plain[0]
    return [
        tuple([difference(before(base * pay, worths[to], base), worths[place]) for pay, to in state])
        for place, state in enumerate(plain[2])
    ]


def targets_of(plain, many):
    """Return the list of the next states of each state, as they are called with so many states ahead of them."""
    return [tuple([many + to for _, to in state]) for state in plain[2]]


def rounds_of(pays, targets):
    """Return the list of the rounds, each the list of the kinds of the states.

    In the round with number k, counted from 0, states are of one kind if they pay the same along all words of k + 1
    letters; in the last round, along all words.
    """
    rounds = [numbers_of(pays)]
    while True:
        kinds = rounds[-1]
        later = numbers_of([
            (kinds[state],) + tuple([kinds[to] for to in targets[state]]) for state in range(len(targets))])
        if max(later) == max(kinds):
            return rounds
        rounds.append(later)


def numbers_of(keys):
    """Return the list of numbers for the keys, counted from 0, equal ones having the same number."""
    numbers = {}
    for key in keys:
        if key not in numbers:
            numbers[key] = len(numbers)
    return [numbers[key] for key in keys]


def row_apart(plain, other):
    """Return a row for which two plain machines with the same base and letters have other worths, or None."""
    letters = plain[1]
    worths, rivals = first_worths(plain), first_worths(other)
    if worths[0] != rivals[0]:
        return ("", letters[0])
    many = len(plain[2])
    pays = own_pays(plain, worths) + own_pays(other, rivals)
    targets = targets_of(plain, 0) + targets_of(other, many)
    rounds = rounds_of(pays, targets)
    if rounds[-1][0] == rounds[-1][many]:
        return None
    word, p, q = "", 0, many
    apart_in = [kinds[p] != kinds[q] for kinds in rounds].index(True)
    for kinds in reversed(rounds[:apart_in]):
        at = [kinds[left] == kinds[right] for left, right in zip(targets[p], targets[q])].index(False)
        word, p, q = word + letters[at], targets[p][at], targets[q][at]
    at = [left == right for left, right in zip(pays[p], pays[q])].index(False)
    return (word + letters[at], letters[0])
