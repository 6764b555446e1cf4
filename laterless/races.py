"""Races: the standings of two machines along a word that is read letter by letter; and trials of walks and races."""

from laterless.errors import NoRunner, NoThings, TooGreat
from laterless.histories import Mark, Step, first_step, place_on, step_back
from laterless.leads import FIRST, MOST_STANDINGS, contest_of, has_won, standings_from, successors
from laterless.needs import need_limit
from laterless.walks import Walk
from laterless.worths import machine_of

DEEPEST = 5


class Race:
    """Reads letters that the rule allows; knows the standings that the word leads to."""

    def __init__(self, one, other, rule, *, limit=MOST_STANDINGS):
        self._contest = contest_of(machine_of(one), machine_of(other), rule)
        need_limit(limit, MOST_STANDINGS)
        self._rule = rule
        self._limit = limit
        self._last = first_step([FIRST])
        self._mark = None

    def __len__(self):
        return len(self._last.text)

    def __enter__(self):
        self._mark = Mark(self._mark, self._last)
        return self

    def __exit__(self, kind, value, trace):
        self._last = self._mark.step
        self._mark = self._mark.around

    def read(self, letter):
        """Read a letter that the rule allows here."""
        step = self._last
        place = place_on(step, self._rule, letter)
        at = self._rule[0].index(letter)
        standings = sorted({
            later for standing in step.known for later in successors(self._contest, standing, at)})
        if len(standings) > self._limit:
            raise TooGreat("the word leads to more standings than the limit")
        self._last = Step(step, step.text + letter, place, standings)

    def undo(self):
        """Take back the last letter that is not taken back."""
        self._last = step_back(self._last)

    def word(self):
        """Return the letters that were read."""
        return self._last.text

    def standings(self):
        """Return the ascending list of the standings that the word leads to."""
        return list(self._last.known)

    def state(self):
        """Tell whether the word begins with a won one, or none can come any more, or neither."""
        if has_won(self._last.known):
            return "won"
        reached = standings_from(self._contest, self._last.known, self._limit)
        return "open" if has_won(reached) else "never"


def trial(runner, things):
    """Return what the runner tells after each letter and "-" of the things, and leave it as it was."""
    if not isinstance(runner, Walk) and not isinstance(runner, Race):
        raise NoRunner("runner is neither a walk nor a race")
    if not is_things(things, DEEPEST):
        raise NoThings("things are not a list of strings and such lists, nested at most five deep")
    return tried(runner, things)


def is_things(thing, deepest):
    """Tell whether thing is a list of strings and such lists, nested at most so deep."""
    if type(thing) != list or deepest == 0:
        return False
    for part in thing:
        if type(part) != str and not is_things(part, deepest - 1):
            return False
    return True


def tried(runner, things):
    """Return the list of what the runner tells for the things, which are done in a stretch of their own."""
    told = []
    with runner:
        for part in things:
            told.append(tried(runner, part) if type(part) == list else told_after(runner, part))
    return told


def told_after(runner, text):
    """Return what the runner tells after a letter, or after the last one is taken back."""
    if text == "-":
        runner.undo()
    else:
        runner.read(text)
    return runner.total() if isinstance(runner, Walk) else runner.state()
