"""The legal states of rules, and what single switches make of a state."""

from itertools import combinations

from flagsteps.errors import IllegalState


def check_legal(rules, state):
    """Raise InvalidState or IllegalState if the argument is not a legal state."""
    broken = rules.broken_clauses(state)
    if broken:
        raise IllegalState(broken[0])


def differing(names, state, other):
    """The list of the switches in which two states differ, in the order of the names."""
    return [name for name in names if (name in state) != (name in other)]


def switched(names, state, changes):
    """The state after each of these switches has been changed once."""
    return tuple([name for name in names if (name in state) != (name in changes)])


def all_states(names):
    """The list of all states, legal or not, in the order in which legal states are given."""
    switches = list(names)
    return [state for size in range(len(switches) + 1) for state in combinations(switches, size)]


def legal_states(rules):
    """Yield all legal states, those with fewer switches on first."""
    for state in all_states(rules.names):
        if rules.is_legal(state):
            yield state


def count_legal(rules):
    """The number of legal states."""
    return len(list(legal_states(rules)))


def _votes(name, states):
    return len([state for state in states if name in state])


def majority(rules, *states):
    """The state of the switches that are on in at least two of three legal states."""
    for state in states:
        check_legal(rules, state)
    return tuple([name for name in rules.names if _votes(name, states) >= 2])
