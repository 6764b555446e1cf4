"""What arguments have to be: each function raises the error that is due where one is not so."""

from laterless.errors import NoLimit, NoMachine, NoMatch, NoPlain, NoRow, NoRule, NoState, NoWord
from laterless.machines import is_between, is_machine, is_plain, is_row, is_rule, is_text, with_choices

LONGEST_WORD = 300


def need_machine(thing, name):
    """Return the machine that is the argument of this name; a plain one with choices of one pair."""
    if is_machine(thing):
        return thing
    if not is_plain(thing):
        raise NoMachine(f"{name} is neither a machine nor a plain machine")
    return with_choices(thing)


def need_choices(thing, name):
    """Raise NoMachine if the argument of this name is no machine, a plain one included."""
    if not is_machine(thing):
        raise NoMachine(f"{name} is not a machine with choices")


def need_plain(thing, name):
    """Raise NoPlain if the argument of this name is no plain machine."""
    if not is_plain(thing):
        raise NoPlain(f"{name} is not a plain machine")


def need_match(one, other):
    """Raise NoMatch if two machines differ in their bases or letters."""
    if one[:2] != other[:2]:
        raise NoMatch("other has another base or other letters")


def need_contest(one, other, rule):
    """Return the machines one and other, plain ones with choices of one pair; raise the error that is due first."""
    first = need_machine(one, "one")
    second = need_machine(other, "other")
    need_match(first, second)
    need_rule(rule, first[1])
    return (first, second)


def need_plains(plain, other):
    """Raise NoPlain or NoMatch if plain and other are not plain machines of one base and the same letters."""
    need_plain(plain, "plain")
    need_plain(other, "other")
    need_match(plain, other)


def need_state(thing, plain, name):
    """Raise NoState if the argument of this name is no state of the plain machine."""
    if not is_between(thing, 0, len(plain[2]) - 1):
        raise NoState(f"{name} is not the number of a state")


def need_rule(thing, letters):
    """Raise NoRule if thing is no rule for these letters."""
    if not is_rule(thing) or thing[0] != letters:
        raise NoRule("rule is not a rule for these letters")


def need_row(thing, letters):
    """Raise NoRow if thing is no row of these letters."""
    if not is_row(thing, letters):
        raise NoRow("row is not a beginning and a ring of at most 1500 of these letters each")


def need_word(thing, letters):
    """Raise NoWord if thing is no word of these letters."""
    if not is_text(thing, letters) or len(thing) > LONGEST_WORD:
        raise NoWord("word is not a string of at most 300 of these letters")


def need_limit(thing, most):
    """Raise NoLimit if thing is no integer from 1 to most."""
    if not is_between(thing, 1, most):
        raise NoLimit(f"limit is not an integer from 1 to {most}")
