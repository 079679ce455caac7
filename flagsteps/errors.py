"""The errors of the package."""


class StepError(ValueError):
    """The base class of all errors of the package."""


class InvalidRules(StepError):
    """The names or the clauses of rules are invalid."""

    def __init__(self, part, index):
        StepError.__init__(self, f"the {part} are invalid at item {index}")
        self.part = part
        self.index = index


class InvalidClause(StepError):
    """A value is not a clause about the switches of the rules."""


class UnknownClause(StepError):
    """No clause has this number."""


class UnknownSwitch(StepError):
    """No switch has this name."""

    def __init__(self, name):
        StepError.__init__(self, "no switch has this name")
        self.name = name


class Impossible(StepError):
    """No state is legal."""


class InvalidState(StepError):
    """A value is not a tuple of switches in the order of the names."""

    def __init__(self, index):
        StepError.__init__(self, f"the state is invalid at item {index}")
        self.index = index


class IllegalState(StepError):
    """A state breaks a clause."""

    def __init__(self, index):
        StepError.__init__(self, f"the state breaks clause {index}")
        self.index = index


class IllegalStep(StepError):
    """The state after a change breaks a clause."""

    def __init__(self, index, clause):
        StepError.__init__(self, f"change {index} breaks clause {clause}")
        self.index = index
        self.clause = clause


class NoWay(StepError):
    """The order of the changes has a circle."""

    def __init__(self, circle):
        StepError.__init__(self, "the order of the changes has a circle")
        self.circle = circle


class NoGoal(StepError):
    """A rollout has no goal."""


class AlreadyOpen(StepError):
    """An open rollout cannot be opened again."""


class InvalidStates(StepError):
    """A value is not a list of observed states."""

    def __init__(self, index):
        StepError.__init__(self, f"the states are invalid at item {index}")
        self.index = index


class TooManyClauses(StepError):
    """More clauses remain than rules can have."""


class DifferentNames(StepError):
    """Two rules do not have the same names."""


class InvalidOperation(StepError):
    """A value is not a list of operations, or an operation fails."""

    def __init__(self, index):
        StepError.__init__(self, f"operation {index} is invalid")
        self.index = index


class TooManySwitches(StepError):
    """Rules cannot have a further switch."""


class LastSwitch(StepError):
    """The only switch of rules cannot be removed."""


class InvalidName(StepError):
    """A value is not a name, or it is in use."""


class NotationError(StepError):
    """A text does not have the form that it must have."""

    def __init__(self, row, word):
        StepError.__init__(self, f"row {row} is wrong at word {word}")
        self.row = row
        self.word = word


class InvalidCount(StepError):
    """A number is not allowed, or there are too many changes."""


class DecodeError(StepError):
    """Bytes do not have the form that they must have."""

    def __init__(self, offset):
        StepError.__init__(self, f"the data is invalid at byte {offset}")
        self.offset = offset
