"""Walks: a machine along a word that is read letter by letter, and what is sure after it."""

from laterless.histories import Mark, Step, first_step, place_on, step_back
from laterless.lacks import lacks_on, led, spread_of
from laterless.needs import need_machine, need_rule
from laterless.numbers import compared, lowest, need_number, power
from laterless.spans import ends_after
from laterless.worths import machine_of


class Walk:
    """Reads letters that the rule allows; knows the lacks and the greatest sum along the word."""

    def __init__(self, machine, rule):
        self._machine = machine_of(machine)
        self._frame = need_machine(self._machine, "machine")
        need_rule(rule, self._frame[1])
        self._rule = rule
        self._spread = spread_of(self._frame)
        self._last = first_step((0, {0: 0}))
        self._mark = None

    def __len__(self):
        return len(self._last.text)

    def __enter__(self):
        self._mark = Mark(self._mark, self._last)
        return self

    def __exit__(self, kind, value, trace):
        self._last = self._mark.step
        self._mark = self._mark.around

    def read(self, letter):
        """Read a letter that the rule allows here."""
        step = self._last
        place = place_on(step, self._rule, letter)
        base, letters = self._frame[:2]
        total, lacks = step.known
        most, later = lacks_on(self._frame, self._spread, lacks, letters.index(letter))
        self._last = Step(step, step.text + letter, place, (base * total + most, later))

    def undo(self):
        """Take back the last letter that is not taken back."""
        self._last = step_back(self._last)

    def word(self):
        """Return the letters that were read."""
        return self._last.text

    def lacks(self):
        """Return the dict from the states to their lacks after the word."""
        return dict(self._last.known[1])

    def total(self):
        """Return the greatest sum along the word, a number."""
        base = self._frame[0]
        return lowest(base * self._last.known[0], power(base, len(self._last.text)))

    def span(self):
        """Return the least and the greatest worth of the rows that begin with the word, each with a row."""
        return ends_after(led(self._machine), self._rule, self._last.text)

    def sure(self, number):
        """Tell how the worths of all rows that begin with the word stand to the number."""
        need_number(number, "number")
        least, greatest = [compared(end[0], number) for end in self.span()]
        if least == greatest == 0:
            return "equal"
        if least > 0:
            return "above"
        return "below" if greatest < 0 else "open"
