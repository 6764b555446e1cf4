"""Histories: letters that are read and taken back. What is known after a word stays with its step, unchanged."""

from laterless.errors import NoLetter, NoUndo, NoWord
from laterless.needs import LONGEST_WORD


class Step:
    """The place after the letters that were read: the word, the state of the rule, and what a runner knows there."""

    def __init__(self, before, text, place, known):
        self.before = before
        self.text = text
        self.place = place
        self.known = known


class Mark:
    """The beginning of a stretch: the step there, and the mark of the stretch around it."""

    def __init__(self, around, step):
        self.around = around
        self.step = step


def first_step(known):
    """Return the step ahead of all letters."""
    return Step(None, "", 0, known)


def place_on(step, rule, letter):
    """Return the state of the rule after one more letter; raise the error that is due if it cannot be read."""
    letters, states = rule
    if type(letter) != str or len(letter) != 1 or letter not in letters:
        raise NoLetter("letter is not a letter of the rule")
    place = states[step.place][letters.index(letter)]
    if place is None:
        raise NoLetter("the rule does not allow this letter here")
    if len(step.text) == LONGEST_WORD:
        raise NoWord("the word would have more than 300 letters")
    return place


def step_back(step):
    """Return the step ahead of the last letter."""
    if step.before is None:
        raise NoUndo("there is no letter to take back")
    return step.before
