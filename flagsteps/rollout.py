"""Rollouts: legal states that are changed one switch at a time."""

from flagsteps.errors import AlreadyOpen, NoGoal, StepError
from flagsteps.states import check_legal, differing, switched
from flagsteps.ways import find_way, states_on_way


class Rollout:
    """A legal state that changes, maybe towards a goal."""

    def __init__(self, rules, state, *, goal=None):
        check_legal(rules, state)
        if goal is not None:
            check_legal(rules, goal)
        self._rules = rules
        self._state = state
        self._goal = goal
        # Both are tuples, which are replaced and never modified, so a block can keep them as they are.
        self._done = ()
        self._undone = ()
        self._is_open = False
        self._kept_state = state
        self._kept_done = ()
        self._kept_undone = ()

    @property
    def state(self):
        """The present state."""
        return self._state

    @property
    def target(self):
        """The goal, or None."""
        return self._goal

    @property
    def history(self):
        """A new list of the switches that were changed, without undone changes."""
        return list(self._done)

    @property
    def remaining(self):
        """A new list of the switches in which state and goal differ."""
        if self._goal is None:
            return []
        return differing(self._rules.names, self._state, self._goal)

    def change(self, *names):
        """Change switches one after another, all or none, and return the state."""
        states = list(states_on_way(self._rules, self._state, names))
        if states:
            self._state = states[-1]
            self._done = self._done + names
            self._undone = ()
        return self._state

    def attempt(self, *names):
        """Change switches if that raises no error of the package, and return whether it does not."""
        try:
            with self:
                self.change(*names)
        except StepError:
            return False
        return True

    def advance(self, count=1):
        """Make the next changes towards the goal, and return the list of them."""
        if self._goal is None:
            raise NoGoal("the rollout has no goal")
        way = find_way(self._rules, self._state, self._goal)
        changes = way[:max(count, 0)]
        self.change(*changes)
        return changes

    def undo(self):
        """Undo the last change in effect, and return whether there was one."""
        if len(self._done) == 0:
            return False
        name = self._done[-1]
        self._state = switched(self._rules.names, self._state, (name,))
        self._done = self._done[:-1]
        self._undone = self._undone + (name,)
        return True

    def redo(self):
        """Make the change again that was undone last, and return whether there was one."""
        if len(self._undone) == 0:
            return False
        name = self._undone[-1]
        self._state = switched(self._rules.names, self._state, (name,))
        self._done = self._done + (name,)
        self._undone = self._undone[:-1]
        return True

    @classmethod
    def resumed(cls, rules, state, changes, *, goal=None):
        """A rollout that has made these changes."""
        rollout = cls(rules, state, goal=goal)
        rollout.change(*changes)
        return rollout

    def __enter__(self):
        if self._is_open:
            raise AlreadyOpen("the rollout is open")
        self._is_open = True
        self._kept_state = self._state
        self._kept_done = self._done
        self._kept_undone = self._undone
        return self

    def __exit__(self, kind, value, trace):
        if kind is not None:
            self._state = self._kept_state
            self._done = self._kept_done
            self._undone = self._kept_undone
        self._is_open = False
