"""Learning rules from observed states, and judging rules and logs."""

from flagsteps.checks import MOST_CLAUSES, check_names, check_state
from flagsteps.errors import DifferentNames, IllegalState, InvalidState, InvalidStates, TooManyClauses
from flagsteps.rules import Rules, broken_among, fulfils
from flagsteps.states import all_states, check_legal, differing


def _check_states(names, states):
    """Raise InvalidStates if the argument is not a non-empty list of states."""
    if not isinstance(states, list) or len(states) == 0:
        raise InvalidStates(0)
    for index, state in enumerate(states):
        try:
            check_state(names, state)
        except InvalidState:
            raise InvalidStates(index) from None


def _candidates(names):
    """The list of all clauses that may be learned, in order."""
    found = []
    for index, first in enumerate(names):
        found.extend([("either", first, first), ("excludes", first, first)])
        for second in names[index + 1:]:
            found.extend([("needs", first, second), ("needs", second, first)])
            found.extend([("excludes", first, second), ("either", first, second)])
    return found


def _all_common(names, states):
    """The list of all candidates that all observed states fulfil."""
    check_names(names)
    _check_states(names, states)
    return [clause for clause in _candidates(names) if all([fulfils(state, clause) for state in states])]


def common_clauses(names, states):
    """Yield all candidates that all observed states fulfil."""
    # All are found at once, so that later changes to the caller's list make no difference.
    for clause in _all_common(names, states):
        yield clause


def _needed(names, clauses):
    """The list of the clauses that are left when, from the last one on, each is removed that the others imply."""
    broken = [broken_among(clauses, state) for state in all_states(names)]
    left = list(clauses)
    for index in reversed(range(len(clauses))):
        # The others imply a clause exactly if no state breaks this clause alone.
        if [index] not in broken:
            del left[index]
            broken = [[each for each in numbers if each != index] for numbers in broken]
    return left


def learn_rules(names, states):
    """Rules with the clauses that all observed states fulfil, without redundant ones."""
    clauses = _needed(names, _all_common(names, states))
    if len(clauses) > MOST_CLAUSES:
        raise TooManyClauses("more clauses remain than rules can have")
    return Rules(names, tuple(clauses))


def closure(names, states):
    """Yield all states that fulfil all clauses that all observed states fulfil."""
    clauses = _all_common(names, states)
    for state in all_states(names):
        if not broken_among(clauses, state):
            yield state


def redundant_clauses(rules):
    """The ascending list of the numbers of the clauses that all other clauses imply."""
    broken = [rules.broken_clauses(state) for state in all_states(rules.names)]
    # The others imply a clause exactly if no state breaks this clause alone.
    return [index for index in range(len(rules.clauses)) if [index] not in broken]


def first_difference(rules, other):
    """The first state that is legal by only one of two rules, and the number of these rules; None if there is none."""
    if rules.names != other.names:
        raise DifferentNames("the rules do not have the same names")
    for state in all_states(rules.names):
        if rules.is_legal(state) != other.is_legal(state):
            return state, 0 if rules.is_legal(state) else 1
    return None


def _is_legal_state(rules, value):
    try:
        check_legal(rules, value)
    except (InvalidState, IllegalState):
        return False
    return True


def first_error(rules, log):
    """The index of the first item of a log that is no legal state or no single change away from the one before it."""
    if not isinstance(log, list):
        return 0
    for index, state in enumerate(log):
        if not _is_legal_state(rules, state):
            return index
        if index > 0 and len(differing(rules.names, log[index - 1], state)) != 1:
            return index
    return None
