"""Editing rules with operations that can be undone."""

from flagsteps.checks import MOST_NAMES, check_switch, is_name
from flagsteps.errors import InvalidName, InvalidOperation, LastSwitch, StepError, TooManySwitches
from flagsteps.rules import Rules


def _check_new_name(rules, name):
    """Raise InvalidName if a switch cannot get this name."""
    if not is_name(name) or name in rules.names:
        raise InvalidName("the name is invalid or in use")


# Each of the following functions returns the rules after an operation and the result of the operation.

def _clause_added(rules, clause):
    return rules.with_clause(clause), len(rules.clauses)


def _clause_removed(rules, index):
    # The call comes first, because it raises the error for a wrong number.
    return rules.without_clause(index), rules.clauses[index]


def _switch_added(rules, name):
    _check_new_name(rules, name)
    if len(rules.names) >= MOST_NAMES:
        raise TooManySwitches("rules cannot have a further switch")
    names = rules.names + (name,)
    return Rules(names, rules.clauses), len(names)


def _switch_removed(rules, name):
    check_switch(rules.names, name)
    if len(rules.names) == 1:
        raise LastSwitch("the only switch cannot be removed")
    names = tuple([each for each in rules.names if each != name])
    # The word of a clause is left aside, because a switch may have the same name.
    left = tuple([clause for clause in rules.clauses if name not in clause[1:]])
    removed = tuple([clause for clause in rules.clauses if name in clause[1:]])
    return Rules(names, left), removed


def _switch_renamed(rules, name, later):
    check_switch(rules.names, name)
    _check_new_name(rules, later)
    renamed = {each: later if each == name else each for each in rules.names}
    names = tuple([renamed[each] for each in rules.names])
    clauses = tuple([(word, renamed[first], renamed[second]) for word, first, second in rules.clauses])
    return Rules(names, clauses), None


ACTIONS = {
    "add_clause": _clause_added,
    "remove_clause": _clause_removed,
    "add_switch": _switch_added,
    "remove_switch": _switch_removed,
    "rename": _switch_renamed,
}
MANY_ARGUMENTS = {"add_clause": 1, "remove_clause": 1, "add_switch": 1, "remove_switch": 1, "rename": 2}


def _outcome(rules, operation):
    """The rules after an operation, and its result."""
    action = ACTIONS[operation[0]]
    arguments = operation[1:]
    return action(rules, *arguments)


def _is_operation(value):
    """Whether a value is a tuple of the name of an operation and the right number of arguments."""
    if not isinstance(value, tuple) or len(value) == 0 or not isinstance(value[0], str):
        return False
    return MANY_ARGUMENTS.get(value[0]) == len(value) - 1


def _check_operations(operations):
    """Raise InvalidOperation if the argument is not a list of operations."""
    if not isinstance(operations, list):
        raise InvalidOperation(0)
    for index, operation in enumerate(operations):
        if not _is_operation(operation):
            raise InvalidOperation(index)


class Workbench:
    """Rules that are changed by operations."""

    def __init__(self, rules):
        # Both hold undone operations, too, until a new operation takes their place; they begin with those in effect.
        self._operations = ()
        self._versions = (rules,)
        self._many = 0

    @property
    def present_rules(self):
        """The rules after all operations in effect."""
        return self._versions[self._many]

    @property
    def history(self):
        """A new list of the operations in effect."""
        return list(self._operations[:self._many])

    def versions(self):
        """Yield the rules at the beginning and after each operation in effect."""
        for rules in self._versions[:self._many + 1]:
            yield rules

    def _put_in_effect(self, operation, rules):
        """Put an operation and the rules after it behind the operations in effect."""
        self._operations = self._operations[:self._many] + (operation,)
        self._versions = self._versions[:self._many + 1] + (rules,)
        self._many += 1

    def _execute(self, operations):
        """Execute operations, all or none, and return the list of their results."""
        outcomes = []
        rules = self.present_rules
        for operation in operations:
            rules, result = _outcome(rules, operation)
            outcomes.append((operation, rules, result))
        for operation, later, _ in outcomes:
            self._put_in_effect(operation, later)
        return [result for _, _, result in outcomes]

    def add_clause(self, clause):
        """Add a clause at the end, and return its number."""
        return self._execute([("add_clause", clause)])[0]

    def remove_clause(self, index):
        """Remove the clause with a number, and return it."""
        return self._execute([("remove_clause", index)])[0]

    def add_switch(self, name):
        """Add a switch at the end, and return the number of switches."""
        return self._execute([("add_switch", name)])[0]

    def remove_switch(self, name):
        """Remove a switch and all clauses with it, and return the tuple of these clauses."""
        return self._execute([("remove_switch", name)])[0]

    def rename(self, name, later):
        """Give a switch another name."""
        return self._execute([("rename", name, later)])[0]

    def undo(self):
        """Undo the last operation in effect, and return whether there was one."""
        if self._many == 0:
            return False
        self._many -= 1
        return True

    def redo(self):
        """Execute the operation again that was undone last, and return whether there was one."""
        if self._many == len(self._operations):
            return False
        self._many += 1
        return True

    def apply_all(self, operations):
        """Execute a list of operations, all or none, and return the list of their results."""
        _check_operations(operations)
        return self._execute(operations)

    @classmethod
    def replay(cls, rules, operations):
        """A workbench after a list of operations."""
        _check_operations(operations)
        workbench = cls(rules)
        for index, operation in enumerate(operations):
            try:
                workbench.apply_all([operation])
            except StepError:
                raise InvalidOperation(index) from None
        return workbench
