"""Rules: switches, and clauses about pairs of them that say which states are legal."""

from flagsteps.checks import check_clauses, check_names, check_state, is_clause, is_number
from flagsteps.errors import InvalidClause, UnknownClause


def fulfils(state, clause):
    """Whether a state fulfils a clause."""
    word, first, second = clause
    if word == "needs":
        return first not in state or second in state
    if word == "excludes":
        return first not in state or second not in state
    return first in state or second in state


def broken_among(clauses, state):
    """The ascending list of the numbers of those of the clauses that a state breaks."""
    return [index for index, clause in enumerate(clauses) if not fulfils(state, clause)]


class Rules:
    """Switches and clauses; they never change."""

    def __init__(self, names, clauses):
        check_names(names)
        check_clauses(names, clauses)
        self._names = names
        self._clauses = clauses

    @property
    def names(self):
        """The tuple of the switches."""
        return self._names

    @property
    def clauses(self):
        """The tuple of the clauses."""
        return self._clauses

    @classmethod
    def free(cls, *names):
        """Rules with these names and without clauses."""
        return cls(names, ())

    def with_clause(self, clause):
        """Rules with a further clause at the end."""
        if not is_clause(self._names, clause):
            raise InvalidClause("this is not a clause about the switches")
        return Rules(self._names, self._clauses + (clause,))

    def without_clause(self, index):
        """Rules without the clause with this number."""
        if not is_number(index) or not 0 <= index < len(self._clauses):
            raise UnknownClause("no clause has this number")
        return Rules(self._names, self._clauses[:index] + self._clauses[index + 1:])

    def broken_clauses(self, state):
        """The ascending list of the numbers of the clauses that a state breaks."""
        check_state(self._names, state)
        return broken_among(self._clauses, state)

    def is_legal(self, state):
        """Whether a state breaks no clause."""
        return len(self.broken_clauses(state)) == 0
