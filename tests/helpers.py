"""What several test files share."""

import copy
import itertools
import unittest

from flagsteps.errors import UnknownSwitch
from flagsteps.rules import Rules

TEN_NAMES = ("one", "b", "third", "d", "e", "f", "g", "h", "i", "lastname")
WORDS = ("needs", "excludes", "either")

# One value or more of each kind that an invalid argument may have.
VALUES_OF_ALL_KINDS = (
    (), ("a",), ("b", "a"), ((),), (("a",),), (["a"],), (0,), (True,), (None,), ("needs", "a", "b"),
    (("needs", "a", "b"),), [], ["a"], [["a"]], ["needs", "a", "b"], [("needs", "a", "b")],
    "", "a", "ab", "needs", "needs a b", 0, 1, -1, 2, 41, 10 ** 5000, -10 ** 5000, True, False, None,
)

# No value of these is a name, a clause, a word or a switch.
NO_NAMES = (
    (), ("a",), (("a",),), [], ["a"], [["a"]], "", "A", "aB", "1", "a1", "a b", " a", "a ", "a\n", "a_b", "a-b",
    "ninechars", "\u00e4", "\u00df", "\u03b1", "\uff41", "\u0430", 0, 1, -1, 10 ** 5000, True, False, None,
)


class Case(unittest.TestCase):
    """Adds checks that tell True from 1 and a list from a tuple."""

    def same(self, actual, expected):
        self.assertEqual(actual, expected)
        self.assertEqual(repr(actual), repr(expected))

    def fails(self, error, attributes, call, *arguments):
        """The call raises exactly this error with exactly these attributes and leaves its arguments alone."""
        before = copy.deepcopy([each for each in arguments if not isinstance(each, Rules)])
        with self.assertRaises(error) as caught:
            call(*arguments)
        self.assertIs(type(caught.exception), error)
        self.same(vars(caught.exception), attributes)
        self.assertEqual([each for each in arguments if not isinstance(each, Rules)], before)

    def unknown(self, name, call, *arguments):
        """The call raises UnknownSwitch with this name, which may be a number with too many digits to be shown."""
        with self.assertRaises(UnknownSwitch) as caught:
            call(*arguments)
        self.assertIs(type(caught.exception), UnknownSwitch)
        self.assertEqual(list(vars(caught.exception)), ["name"])
        self.assertIs(type(caught.exception.name), type(name))
        self.assertTrue(caught.exception.name == name)


def clauses_about(names):
    """All clauses about these names."""
    return [(word, first, second) for word in WORDS for first in names for second in names]


def equal(first, second):
    """The clauses that bind two switches to be equal."""
    return (("needs", first, second), ("needs", second, first))


def opposite(first, second):
    """The clauses that bind two switches to be opposite."""
    return (("either", first, second), ("excludes", first, second))


def rules_with_pairs_of_clauses(names):
    """All rules with these names and exactly two clauses."""
    return [Rules(names, pair) for pair in itertools.product(clauses_about(names), repeat=2)]


class Mixer:
    """A fixed sequence of choices that looks mixed."""

    def __init__(self):
        self.number = 1

    def below(self, many):
        self.number = (self.number * 1103515245 + 12345) & 0x7fffffff
        return (self.number >> 8) % many

    def one_of(self, choices):
        return choices[self.below(len(choices))]


def mixed_rules():
    """Rules with four to six names and up to twelve clauses, mixed in a fixed way."""
    found = []
    mixer = Mixer()
    for many in range(120):
        names = TEN_NAMES[:4 + many % 3]
        choices = clauses_about(names)
        clauses = tuple(mixer.one_of(choices) for _ in range(many // 10 + 1))
        found.append(Rules(names, clauses))
    return found


ALLOWED = {
    "needs": {(False, False), (False, True), (True, True)},
    "excludes": {(False, False), (False, True), (True, False)},
    "either": {(False, True), (True, False), (True, True)},
}


def holds(clause, state):
    """Whether a state fulfils a clause, by the truth table of its word."""
    word, first, second = clause
    return (first in state, second in state) in ALLOWED[word]


def expected_legal(rules):
    """The legal states by the truth tables of the words, in the order that the document gives."""
    found = []
    for values in itertools.product((True, False), repeat=len(rules.names)):
        state = tuple(itertools.compress(rules.names, values))
        if all(holds(clause, state) for clause in rules.clauses):
            found.append(state)
    # The sort is stable, and the values above begin with those in which the first switches are on.
    return sorted(found, key=len)


def expected_constants(rules):
    found = {}
    for name in rules.names:
        values = {name in state for state in expected_legal(rules)}
        if len(values) == 1:
            found[name] = values.pop()
    return found


def expected_groups(rules):
    """The bound groups, with each pair of switches compared in each legal state."""
    states = expected_legal(rules)
    others = [name for name in rules.names if name not in expected_constants(rules)]
    found = []
    for first in others:
        group = []
        for name in others:
            agreements = {(first in state) == (name in state) for state in states}
            if len(agreements) == 1:
                group.append((name, agreements.pop()))
        if len(group) > 1 and group[0][0] == first:
            found.append(tuple(group))
    return found


def expected_differing(rules, start, goal):
    """The switches in which two states differ, in the order of the names."""
    return [name for name in rules.names if [name in start, name in goal].count(True) == 1]


def flipped(rules, state, changes):
    """The state after all these changes, made one after another."""
    on = {name: name in state for name in rules.names}
    for name in changes:
        on[name] = not on[name]
    return tuple(name for name in rules.names if on[name])


def expected_ways(rules, start, goal):
    """All ways, in order, found by trying each order of the changes and looking at each state in between."""
    legal = set(expected_legal(rules))
    found = []
    for order in itertools.permutations(expected_differing(rules, start, goal)):
        if all(flipped(rules, start, order[:many]) in legal for many in range(len(order) + 1)):
            found.append(list(order))
    return found


def expected_pairs(rules, start, goal):
    """What each clause alone says of the order: a switch that breaks it if changed first comes after the other one."""
    changed = expected_differing(rules, start, goal)
    found = []
    for number, clause in enumerate(rules.clauses):
        _, first, second = clause
        if first in changed and second in changed and first != second:
            possible = holds(clause, flipped(rules, start, [first]))
            found.append((number, first, second) if possible else (number, second, first))
    return found


def pairs_of_states(rules, many=12):
    """Some pairs of legal states, spread over all of them; with few states all pairs."""
    pairs = list(itertools.product(expected_legal(rules), repeat=2))
    return pairs[::max(1, len(pairs) // many)]


def cases():
    """Rules of several kinds, each with a legal start and a legal goal; some have many ways, some few, some none."""
    found = []
    for rules in rules_with_pairs_of_clauses(("b", "a"))[::2] + rules_with_pairs_of_clauses(("b", "c", "a"))[::7]:
        found.extend((rules, start, goal) for start, goal in pairs_of_states(rules, 4))
    mixer = Mixer()
    for many in range(300):
        names = TEN_NAMES[:3 + many % 4]
        start = tuple(name for name in names if mixer.below(2))
        # Each switch differs with five chances of six, so that the changes are many, but not always all.
        goal = tuple(name for name in names if (name in start) != (mixer.below(6) > 0))
        choices = [clause for clause in clauses_about(names) if holds(clause, start) and holds(clause, goal)]
        clauses = tuple(mixer.one_of(choices) for _ in range(mixer.below(2 * len(names))))
        found.append((Rules(names, clauses), start, goal))
    return found


def listed(generator):
    """A function that returns all values of a generator in a list."""
    return lambda *arguments: list(generator(*arguments))


def all_states(names):
    """All states, legal or not, in the order that the document gives."""
    return expected_legal(Rules.free(*names))


def parts(rules):
    """What can be seen of rules; they are not compared themselves."""
    return rules.names, rules.clauses


def wrong_names():
    """Arguments that cannot be the names of rules, with the index that InvalidRules has."""
    found = [(value, 0) for value in VALUES_OF_ALL_KINDS if not isinstance(value, tuple)]
    found.extend([((), 0), (["a", "b"], 0), ("ab", 0), (("a", "a"), 1), (("a", "b", "a"), 2), (("a", "b", "b", "B"), 2)])
    for value in NO_NAMES:
        found.extend([((value,), 0), (("a", value), 1), (("a", "b", value, "a"), 2)])
    found.extend([(TEN_NAMES + ("k",), 10), (TEN_NAMES + ("k", "l"), 10), (TEN_NAMES + ("b",), 10),
                  (("b", "b") + TEN_NAMES, 1)])
    return found
