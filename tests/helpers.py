"""What several test files share."""

import copy
import itertools
import unittest

from flagsteps.rules import Rules

TEN_NAMES = ("one", "b", "third", "d", "e", "f", "g", "h", "i", "lastname")
WORDS = ("needs", "excludes", "either")

# One value or more of each kind that an invalid argument may have.
VALUES_OF_ALL_KINDS = (
    (), ("a",), ("b", "a"), ((),), (("a",),), (["a"],), (0,), (True,), (None,), ("needs", "a", "b"),
    (("needs", "a", "b"),), [], ["a"], [["a"]], ["needs", "a", "b"], [("needs", "a", "b")],
    "", "a", "ab", "needs", "needs a b", 0, 1, -1, 2, 41, 10 ** 5000, -10 ** 5000, True, False, None,
)

# No value of these is a name, a clause, a word or a switch.
NO_NAMES = (
    (), ("a",), (("a",),), [], ["a"], [["a"]], "", "A", "aB", "1", "a1", "a b", " a", "a ", "a\n", "a_b", "a-b",
    "ninechars", "\u00e4", "\u00df", "\u03b1", "\uff41", "\u0430", 0, 1, -1, 10 ** 5000, True, False, None,
)


class Case(unittest.TestCase):
    """Adds checks that tell True from 1 and a list from a tuple."""

    def same(self, actual, expected):
        self.assertEqual(actual, expected)
        self.assertEqual(repr(actual), repr(expected))

    def fails(self, error, attributes, call, *arguments):
        """The call raises exactly this error with exactly these attributes and leaves its arguments alone."""
        before = copy.deepcopy([each for each in arguments if not isinstance(each, Rules)])
        with self.assertRaises(error) as caught:
            call(*arguments)
        self.assertIs(type(caught.exception), error)
        self.same(vars(caught.exception), attributes)
        self.assertEqual([each for each in arguments if not isinstance(each, Rules)], before)


def clauses_about(names):
    """All clauses about these names."""
    return [(word, first, second) for word in WORDS for first in names for second in names]


def rules_with_pairs_of_clauses(names):
    """All rules with these names and exactly two clauses."""
    return [Rules(names, pair) for pair in itertools.product(clauses_about(names), repeat=2)]


def mixed_rules():
    """Rules with four to six names and up to twelve clauses, mixed in a fixed way."""
    found = []
    number = 1
    for many in range(120):
        names = TEN_NAMES[:4 + many % 3]
        choices = clauses_about(names)
        clauses = []
        for _ in range(many // 10 + 1):
            number = (number * 1103515245 + 12345) & 0x7fffffff
            clauses.append(choices[(number >> 8) % len(choices)])
        found.append(Rules(names, tuple(clauses)))
    return found


ALLOWED = {
    "needs": {(False, False), (False, True), (True, True)},
    "excludes": {(False, False), (False, True), (True, False)},
    "either": {(False, True), (True, False), (True, True)},
}


def expected_legal(rules):
    """The legal states by the truth tables of the words, in the order that the document gives."""
    found = []
    for values in itertools.product((True, False), repeat=len(rules.names)):
        on = dict(zip(rules.names, values))
        if all((on[first], on[second]) in ALLOWED[word] for word, first, second in rules.clauses):
            found.append(tuple(name for name in rules.names if on[name]))
    # The sort is stable, and the values above begin with those in which the first switches are on.
    return sorted(found, key=len)
