"""Islands: sets of legal states between any two of which there is a way."""

from flagsteps.groups import bound_groups, settings_in
from flagsteps.states import check_legal, legal_states


class Island:
    """An island; it is made from its settings and the tuple of its states, in the order of legal states."""

    def __init__(self, values, members):
        self._values = values
        self._members = members

    @property
    def settings(self):
        """The settings that all states of the island have."""
        return self._values

    @property
    def first(self):
        """The first state."""
        return self._members[0]

    @property
    def size(self):
        """The number of the states."""
        return len(self._members)

    @property
    def states(self):
        """A new list of the states, in the order of legal states."""
        return list(self._members)


def _all_islands(rules):
    """The list of all islands, in the order of their first states."""
    groups = bound_groups(rules)
    found = {}
    for state in legal_states(rules):
        found.setdefault(settings_in(groups, state), []).append(state)
    return [Island(values, tuple(members)) for values, members in found.items()]


def islands(rules):
    """Yield all islands, in the order of their first states."""
    for island in _all_islands(rules):
        yield island


def count_islands(rules):
    """The number of islands."""
    return len(_all_islands(rules))


def island_of(rules, state):
    """The island of a legal state."""
    check_legal(rules, state)
    values = settings_in(bound_groups(rules), state)
    return [island for island in _all_islands(rules) if island.settings == values][0]


def same_island(rules, state, other):
    """Whether two legal states are on the same island."""
    check_legal(rules, state)
    check_legal(rules, other)
    groups = bound_groups(rules)
    return settings_in(groups, state) == settings_in(groups, other)
