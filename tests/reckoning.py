"""The document's definitions, reckoned with fractions and step by step, the slow way."""

import itertools
from fractions import Fraction


def number(fraction):
    return (fraction.numerator, fraction.denominator)


def choice_of(machine, state, letter):
    """The pairs of a state at a letter, for plain machines, too."""
    choice = machine[2][state][machine[1].index(letter)]
    return choice if isinstance(choice[0], tuple) else (choice,)


def pays_of(machine):
    return [
        pay for state in range(len(machine[2])) for letter in machine[1] for pay, _ in choice_of(machine, state, letter)
    ]


def letter_at(row, place):
    beginning, ring = row
    return beginning[place] if place < len(beginning) else ring[(place - len(beginning)) % len(ring)]


def rest_of(row):
    """The row without its first letter."""
    beginning, ring = row
    return (beginning[1:], ring) if beginning else ("", ring[1:] + ring[:1])


def begun_in(machine, state):
    """The machine with this state and state 0 exchanged, so that it begins in this state."""
    names = {0: state, state: 0}
    order = list(range(len(machine[2])))
    order[0], order[state] = order[state], order[0]

    def renamed(choice):
        if isinstance(choice[0], tuple):
            return tuple([renamed(pair) for pair in choice])
        return (choice[0], names.get(choice[1], choice[1]))

    return machine[:2] + (tuple([tuple([renamed(choice) for choice in machine[2][at]]) for at in order]),)


def worth_bounds(machine, row, steps):
    """The least and the greatest that the greatest worth can be, from that of the sums over so many steps."""
    base = machine[0]
    ends = []
    for pay in [min(pays_of(machine)), max(pays_of(machine))]:
        rest = [Fraction(pay * base, base - 1)] * len(machine[2])
        for place in reversed(range(steps)):
            letter = letter_at(row, place)
            rest = [
                max(pay + rest[to] / base for pay, to in choice_of(machine, state, letter))
                for state in range(len(machine[2]))
            ]
        ends.append(rest[0])
    return ends


def way_worth(machine, row, first, again):
    """The worth of a way that takes these numbers; None if they are not those of a way that comes round."""
    if len(first) < len(row[0]) or not again or len(again) % len(row[1]) != 0:
        return None
    state, total, states = 0, Fraction(0), []
    unit = Fraction(1)
    for place, at in enumerate(first + again):
        if place == len(first):
            states.append((state, total, unit))
        choice = choice_of(machine, state, letter_at(row, place))
        if not 0 <= at < len(choice):
            return None
        pay, state = choice[at]
        total += pay * unit
        unit /= machine[0]
    met, early, ahead = states[0]
    if met != state:
        return None
    return early + (total - early) / (1 - unit / ahead)


def sums(machine, word):
    """The dict from states to the greatest sums of all ways along the word that end there."""
    found = {0: Fraction(0)}
    unit = Fraction(1)
    for letter in word:
        later = {}
        for state, total in found.items():
            for pay, to in choice_of(machine, state, letter):
                later[to] = max(later.get(to, total + pay * unit), total + pay * unit)
        found = later
        unit /= machine[0]
    return found


def lacks(machine, word):
    """The lacks after the word, by what [5] says that they are."""
    found = sums(machine, word)
    base, most = machine[0], max(found.values())
    spread = max(pays_of(machine)) - min(pays_of(machine))
    all_lacks = {state: base ** len(word) * (most - total) for state, total in found.items()}
    return {
        state: int(lack) for state, lack in all_lacks.items()
        if not (lack > 0 and lack * (base - 1) >= spread * base)
    }


def lacks_on(machine, lacks, letter):
    """What is paid at the letter from a dict of lacks, whatever it is, and the dict after it, by the rule of [5]."""
    base = machine[0]
    spread = max(pays_of(machine)) - min(pays_of(machine))
    gains = {}
    for state in lacks:
        for pay, to in choice_of(machine, state, letter):
            gains.setdefault(to, []).append(pay - lacks[state])
    most = max(max(part) for part in gains.values())
    later = {to: base * (most - max(part)) for to, part in gains.items()}
    return most, {
        to: lack for to, lack in later.items() if not (lack > 0 and lack * (base - 1) >= spread * base)
    }


def words(letters, most):
    """All words of at most so many letters, in the order of words."""
    for many in range(most + 1):
        for word in itertools.product(letters, repeat=many):
            yield "".join(word)


def dicts(machine, most):
    """The dicts of lacks in the order in which words reach them first, up to most + 1 of them."""
    found, firsts = [{0: 0}], [""]
    for first in firsts:
        for letter in machine[1]:
            later = lacks(machine, first + letter)
            if later not in found:
                found.append(later)
                firsts.append(first + letter)
                if len(found) > most:
                    return found
    return found


def ways(machine, word):
    """All ways along the word: the states that they go through, with their sums after each letter."""
    found = [[(0, Fraction(0))]]
    for place, letter in enumerate(word):
        found = [
            way + [(to, way[-1][1] + Fraction(pay, machine[0] ** place))]
            for way in found for pay, to in choice_of(machine, way[-1][0], letter)
        ]
    return found


def rule_states(rule, word):
    """The states of the rule along the word, None once a letter is barred."""
    states = [0]
    for letter in word:
        state = states[-1]
        states.append(None if state is None else rule[1][state][rule[0].index(letter)])
    return states


def standings(one, other, rule, word):
    """All standings that the word leads to, reckoned from the ways of one and the sums of other along the word."""
    base = one[0]
    over = max(0, max(pays_of(other)) - min(pays_of(one)))
    below = max(0, max(pays_of(one)) - min(pays_of(other)))
    places = rule_states(rule, word)
    if places[-1] is None:
        return set()
    rivals = [sums(other, word[:many]) for many in range(len(word) + 1)]
    found = set()
    for way in ways(one, word):
        lost = False
        for many, (state, total) in enumerate(way):
            leads = {rival: base ** many * (total - best) for rival, best in rivals[many].items()}
            # The lead of the empty word is not looked at: there is no letter yet that could make it vain.
            lost = lost or many > 0 and any(-lead * (base - 1) >= below * base for lead in leads.values())
        if not lost:
            kept = [(rival, int(lead)) for rival, lead in sorted(leads.items()) if lead * (base - 1) <= over * base]
            found.add((places[-1], state, tuple(kept)))
    return found


def levels(one, other, rule, most):
    """The levels, up to the one of words of most letters, from the standings of all words."""
    found, seen = [], set()
    for many in range(most + 1):
        level = set()
        for word in itertools.product(one[1], repeat=many):
            level |= standings(one, other, rule, "".join(word))
        level -= seen
        if not level:
            break
        seen |= level
        found.append(sorted(level))
        if any(standing[2] == () for standing in level):
            break
    return found
