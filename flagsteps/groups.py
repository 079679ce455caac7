"""Switches that are the same in all legal states, and groups of switches that are bound to each other."""

from flagsteps.errors import Impossible
from flagsteps.states import check_legal, legal_states


def _columns(rules):
    """A dict from each switch to the list that tells for each legal state whether it is on."""
    states = list(legal_states(rules))
    if not states:
        raise Impossible("no state is legal")
    return {name: [name in state for state in states] for name in rules.names}


def _is_constant(column):
    return all(column) or not any(column)


def constants(rules):
    """A dict from each switch that is the same in all legal states to whether it is on."""
    columns = _columns(rules)
    return {name: columns[name][0] for name in rules.names if _is_constant(columns[name])}


def bound_groups(rules):
    """The list of all bound groups, each a tuple of pairs of a switch and whether it is equal to the first one."""
    columns = _columns(rules)
    alike = {}
    for name in rules.names:
        column = columns[name]
        if not _is_constant(column):
            # Equal and opposite switches differ from their own first value in the same states.
            pattern = tuple([on != column[0] for on in column])
            alike.setdefault(pattern, []).append(name)
    return [_group(columns, names) for names in alike.values() if len(names) >= 2]


def _group(columns, names):
    first = columns[names[0]]
    return tuple([(name, columns[name] == first) for name in names])


def settings_in(groups, state):
    """The settings of a state for bound groups that have been computed before."""
    return tuple([group[0][0] in state for group in groups])


def settings(rules, state):
    """The tuple that tells for each bound group whether its first switch is on in a legal state."""
    check_legal(rules, state)
    return settings_in(bound_groups(rules), state)
