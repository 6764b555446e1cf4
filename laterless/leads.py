"""Whether one machine is ever above another one: won words, or finitely many standings that show that there is none."""

from laterless.errors import TooGreat
from laterless.machines import is_between, is_tuple, pays_of
from laterless.needs import need_contest, need_limit
from laterless.numbers import is_whole
from laterless.things import is_exactly

MOST_STANDINGS = 2000
FIRST = (0, 0, ((0, 0),))


def parted(one, other, rule, *, limit=MOST_STANDINGS):
    """Return the first won word, or None."""
    contest = contest_of(one, other, rule)
    need_limit(limit, MOST_STANDINGS)
    last = levels_until_won(contest, limit)[-1]
    won = [last[standing] for standing in last if is_won(standing)]
    return min(won) if won else None


def levels_of(one, other, rule, *, limit=MOST_STANDINGS):
    """Return the list of the levels, up to the first one with a standing without leads or the last one not empty."""
    contest = contest_of(one, other, rule)
    need_limit(limit, MOST_STANDINGS)
    return [sorted(level) for level in levels_until_won(contest, limit)]


def shows_levels(one, other, rule, thing):
    """Tell whether thing is the list of the levels, whatever the number of its standings."""
    contest = contest_of(one, other, rule)
    if type(thing) != list:
        return False
    level, seen = {FIRST: ""}, {FIRST: True}
    for place, told in enumerate(thing):
        if not is_exactly(told, sorted(level)):
            return False
        last = place == len(thing) - 1
        if has_won(level):
            return last
        level = level_after(contest, level, seen)
        if not level:
            return last
        for standing in level:
            seen[standing] = True
    return False


def shows_never(one, other, rule, thing):
    """Tell whether thing is a list of standings, closed under successors, that shows that one is never above other."""
    contest = contest_of(one, other, rule)
    if type(thing) != list or not all([is_standing(part, contest) for part in thing]):
        return False
    told = {part: True for part in thing}
    if len(told) != len(thing) or FIRST not in told:
        return False
    for standing in thing:
        for at in range(len(contest[1])):
            if not all([later in told for later in successors(contest, standing, at)]):
                return False
    return True


def contest_of(one, other, rule):
    """Return (base, letters, the states of rule, one and other, over, below); raise the error that is due first."""
    first, second = need_contest(one, other, rule)
    gains, losses = pays_of(first), pays_of(second)
    over = max(0, max(losses) - min(gains))
    below = max(0, max(gains) - min(losses))
    return (first[0], first[1], rule[1], first[2], second[2], over, below)


def levels_until_won(contest, limit):
    """Return the list of the levels, each a dict from its standings to the first words that reach them."""
    level, seen = {FIRST: ""}, {FIRST: True}
    levels = []
    while level:
        levels.append(level)
        if has_won(level):
            return levels
        level = level_after(contest, level, seen)
        if len(seen) + len(level) > limit:
            raise TooGreat("there are more standings than the limit")
        for standing in level:
            seen[standing] = True
    return levels


def standings_from(contest, standings, limit):
    """Return the list of all standings that can be reached from these ones; those without leads go no further."""
    reached = list(standings)
    seen = {standing: True for standing in standings}
    done = 0
    while done < len(reached):
        if len(reached) > limit:
            raise TooGreat("more standings can be reached than the limit")
        standing = reached[done]
        done = done + 1
        if not is_won(standing):
            for at in range(len(contest[1])):
                for later in successors(contest, standing, at):
                    if later not in seen:
                        seen[later] = True
                        reached.append(later)
    return reached


def level_after(contest, level, seen):
    """Return the dict from the successors of the level that are not seen so far to the first words that reach them.

    The words of a level are of one length, so the first word of a successor goes on from the first word of one of
    the standings ahead of it.
    """
    later = {}
    for standing in level:
        for at, letter in enumerate(contest[1]):
            word = level[standing] + letter
            for successor in successors(contest, standing, at):
                if successor not in seen and (successor not in later or word < later[successor]):
                    later[successor] = word
    return later


def successors(contest, standing, at):
    """Return the list of the successors of the standing at the letter with this place, perhaps some of them twice."""
    base, _, places, ones, others, over, below = contest
    place, state, leads = standing
    after = places[place][at]
    if after is None:
        return []
    nearest = {}
    for rival, lead in leads:
        for loss, to in others[rival][at]:
            if to not in nearest or lead - loss < nearest[to]:
                nearest[to] = lead - loss
    found = []
    for pay, later in ones[state][at]:
        ahead = [(end, base * (nearest[end] + pay)) for end in sorted(nearest)]
        if not any([-pair[1] * (base - 1) >= below * base for pair in ahead]):
            # What is safe is left out only now: a lead may be vain beside it.
            found.append((after, later, tuple([pair for pair in ahead if pair[1] * (base - 1) <= over * base])))
    return found


def is_won(standing):
    """Tell whether the standing is one without leads."""
    return standing[2] == ()


def has_won(level):
    """Tell whether a standing of the level is one without leads."""
    return any([is_won(standing) for standing in level])


def is_standing(thing, contest):
    """Tell whether thing is a standing that has leads, any integers."""
    places, ones, others = contest[2:5]
    if not is_tuple(thing, 3, 3):
        return False
    place, state, leads = thing
    if not is_between(place, 0, len(places) - 1) or not is_between(state, 0, len(ones) - 1):
        return False
    if not is_tuple(leads, 1, len(others)) or not all([is_tuple(pair, 2, 2) for pair in leads]):
        return False
    if not all([is_between(pair[0], 0, len(others) - 1) and is_whole(pair[1]) for pair in leads]):
        return False
    return all([leads[at][0] < leads[at + 1][0] for at in range(len(leads) - 1)])
