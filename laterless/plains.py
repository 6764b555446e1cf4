"""Plain machines made of plain machines: sums, multiples, the greater and the lesser of two, and later beginnings."""

from laterless.errors import TooGreat
from laterless.machines import MOST_PLAIN_PAY, MOST_PLAIN_STATES


def along(plain, word):
    """Return the sum along the word, in units of its last pay, and the state after it."""
    base, letters, states = plain
    total, state = 0, 0
    for letter in word:
        pay, later = states[state][letters.index(letter)]
        total, state = base * total + pay, later
    return (total, state)


def pairs_reached(plain, other, limit):
    """Return the list of the pairs of states that one word reaches, in the order in which words reach them first."""
    pairs = [(0, 0)]
    seen = {(0, 0): True}
    done = 0
    while done < len(pairs):
        p, q = pairs[done]
        done = done + 1
        for left, right in zip(plain[2][p], other[2][q]):
            later = (left[1], right[1])
            if later not in seen:
                if len(pairs) == limit:
                    raise TooGreat("words reach more pairs of states than the limit")
                seen[later] = True
                pairs.append(later)
    return pairs


def negated(plain):
    """Return the plain machine with all pays negated."""
    return scaled(plain, -1)


def scaled(plain, factor):
    """Return the plain machine with all pays multiplied by the factor."""
    base, letters, states = plain
    return fitting((base, letters, tuple([
        tuple([(factor * pay, to) for pay, to in state]) for state in states])))


def summed(plain, other):
    """Return the plain machine that pays what both pay together."""
    pairs = pairs_reached(plain, other, MOST_PLAIN_STATES)
    places = {pair: place for place, pair in enumerate(pairs)}
    states = []
    for p, q in pairs:
        states.append(tuple([
            (left[0] + right[0], places[(left[1], right[1])]) for left, right in zip(plain[2][p], other[2][q])]))
    return fitting((plain[0], plain[1], tuple(states)))


def lifted(plain, more):
    """Return the plain machine that pays so much more at the first step."""
    base, letters, states = plain
    if more == 0:
        return plain
    first = tuple([(pay + more, to) for pay, to in states[0]])
    # The old first state stays behind for the words that come back to it; without such it is not reached any more.
    return begun(fitting((base, letters, states + (first,))), len(states))


def after_word(plain, word):
    """Return the plain machine that pays what is paid after the word and, at the first step, the sum along it."""
    total, state = along(plain, word)
    return lifted(begun(plain, state), plain[0] * total)


def begun(plain, state):
    """Return the plain machine that begins in this state, with the states that words reach from there."""
    return numbered(plain, None, 0, (state, None, 0))


def greater_of(plain, other):
    """Return the plain machine that pays for each row what the one that pays more for it does."""
    pays = [pay for states in [plain[2], other[2]] for state in states for pay, _ in state]
    return numbered(plain, other, max(pays) - min(pays), (0, 0, 0))


def lesser_of(plain, other):
    """Return the plain machine that pays for each row what the one that pays less for it does."""
    return negated(greater_of(negated(plain), negated(other)))


def numbered(plain, other, over, first):
    """Return the plain machine of the places that words reach from the first one, in the order of these words.

    A place is (state of plain, state of other, lead of plain); one state is None where the other machine goes on alone.
    """
    places = {first: 0}
    order = [first]
    states = []
    while len(states) < len(order):
        state = []
        for at in range(len(plain[1])):
            pay, later = greater_step(plain, other, over, order[len(states)], at)
            if later not in places:
                if len(order) == MOST_PLAIN_STATES:
                    raise TooGreat("a machine would have more than 300 states")
                places[later] = len(order)
                order.append(later)
            state.append((pay, places[later]))
        states.append(tuple(state))
    return (plain[0], plain[1], tuple(states))


def greater_step(plain, other, over, place, at):
    """Return what is paid at the letter with this place in its letters, and the next place."""
    p, q, lead = place
    base = plain[0]
    if q is None:
        pay, to = plain[2][p][at]
        return (pay, (to, None, 0))
    if p is None:
        pay, to = other[2][q][at]
        return (pay, (None, to, 0))
    x, left = plain[2][p][at]
    y, right = other[2][q][at]
    pay = max(x, y - lead) if lead >= 0 else max(x + lead, y)
    later = base * (lead + x - y)
    if later * (base - 1) > over * base:
        return (pay, (left, None, 0))
    if -later * (base - 1) > over * base:
        return (pay, (None, right, 0))
    return (pay, (left, right, later))


def fitting(plain):
    """Return plain if none of its pays is too great for a plain machine."""
    if not all([abs(pay) <= MOST_PLAIN_PAY for state in plain[2] for pay, _ in state]):
        raise TooGreat("a machine would have a pay more than 10 ** 30 from 0")
    return plain
