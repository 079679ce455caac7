"""Tests of values that come from outside: names, clauses, numbers, states and single switches."""

from flagsteps.errors import InvalidRules, InvalidState, UnknownSwitch

LETTERS = "abcdefghijklmnopqrstuvwxyz"
WORDS = ("needs", "excludes", "either")
MOST_LETTERS = 8
MOST_NAMES = 10
MOST_CLAUSES = 40


def is_number(value):
    """Whether a value is an integer; Python counts booleans among them, the package does not."""
    return isinstance(value, int) and not isinstance(value, bool)


def is_name(value):
    """Whether a value has the form of the name of a switch."""
    if not isinstance(value, str) or not 1 <= len(value) <= MOST_LETTERS:
        return False
    return all(letter in LETTERS for letter in value)


def is_clause(names, value):
    """Whether a value is a clause about the switches with these names."""
    if not isinstance(value, tuple) or len(value) != 3:
        return False
    return value[0] in WORDS and value[1] in names and value[2] in names


def check_names(names):
    """Raise InvalidRules if the argument cannot be the names of rules."""
    if not isinstance(names, tuple) or len(names) == 0:
        raise InvalidRules("names", 0)
    for index, name in enumerate(names):
        if index >= MOST_NAMES or not is_name(name) or name in names[:index]:
            raise InvalidRules("names", index)


def check_clauses(names, clauses):
    """Raise InvalidRules if the argument cannot be the clauses of rules with these names."""
    if not isinstance(clauses, tuple):
        raise InvalidRules("clauses", 0)
    for index, clause in enumerate(clauses):
        if index >= MOST_CLAUSES or not is_clause(names, clause):
            raise InvalidRules("clauses", index)


def check_state(names, state):
    """Raise InvalidState if the argument is not a state of the switches with these names."""
    if not isinstance(state, tuple):
        raise InvalidState(0)
    later = names
    for index, name in enumerate(state):
        if name not in later:
            raise InvalidState(index)
        later = later[later.index(name) + 1:]


def check_switch(names, name):
    """Raise UnknownSwitch if the argument is not one of the switches with these names."""
    if name not in names:
        raise UnknownSwitch(name)
