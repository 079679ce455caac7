"""Point 3: states, the clauses that they break, and whether they are legal."""

import itertools
import unittest

from flagsteps.errors import IllegalState, InvalidState
from flagsteps.groups import settings
from flagsteps.rules import Rules
from flagsteps.states import majority
from tests.helpers import (ALLOWED, NO_NAMES, TEN_NAMES, VALUES_OF_ALL_KINDS, Case, clauses_about,
                           rules_with_pairs_of_clauses)


def example():
    return Rules(("a", "b", "c"), (("needs", "a", "b"), ("excludes", "b", "c")))


class ExamplesTest(Case):
    def test_broken_clauses_and_is_legal(self):
        rules = example()
        self.same([rules.broken_clauses(("a", "c")), rules.is_legal(("a", "b"))], [[0], True])

    def test_wrong_order(self):
        self.fails(InvalidState, {"index": 1}, example().is_legal, ("b", "a"))


class WordsTest(Case):
    def check_word(self, word, broken):
        rules = Rules(("a", "b"), ((word, "a", "b"),))
        for state in ((), ("a",), ("b",), ("a", "b")):
            with self.subTest(f"{word} {state}"):
                self.same(rules.broken_clauses(state), [0] if state in broken else [])
                self.same(rules.is_legal(state), state not in broken)

    def test_needs(self):
        self.check_word("needs", [("a",)])

    def test_excludes(self):
        self.check_word("excludes", [("a", "b")])

    def test_either(self):
        self.check_word("either", [()])

    def test_the_order_of_the_switches_matters_for_needs(self):
        self.same(Rules(("a", "b"), (("needs", "b", "a"),)).broken_clauses(("b",)), [0])
        self.same(Rules(("a", "b"), (("needs", "b", "a"),)).broken_clauses(("a",)), [])

    def test_one_switch_twice(self):
        self.same(Rules(("a",), (("needs", "a", "a"),)).is_legal(()), True)
        self.same(Rules(("a",), (("needs", "a", "a"),)).is_legal(("a",)), True)
        self.same(Rules(("a",), (("excludes", "a", "a"),)).is_legal(()), True)
        self.same(Rules(("a",), (("excludes", "a", "a"),)).is_legal(("a",)), False)
        self.same(Rules(("a",), (("either", "a", "a"),)).is_legal(()), False)
        self.same(Rules(("a",), (("either", "a", "a"),)).is_legal(("a",)), True)


class BrokenClausesTest(Case):
    def test_all_states_of_all_pairs_of_clauses(self):
        states = [(), ("a",), ("b",), ("c",), ("a", "b"), ("a", "c"), ("b", "c"), ("a", "b", "c")]
        for rules in rules_with_pairs_of_clauses(("a", "b", "c")):
            for state in states:
                broken = [number for number, (word, first, second) in enumerate(rules.clauses)
                          if (first in state, second in state) not in ALLOWED[word]]
                self.same(rules.broken_clauses(state), broken)
                self.same(rules.is_legal(state), not broken)

    def test_several_broken_clauses_ascend(self):
        clauses = (("either", "a", "b"), ("needs", "a", "b"), ("either", "c", "c"), ("either", "b", "a"))
        rules = Rules(("a", "b", "c"), clauses)
        self.same(rules.broken_clauses(()), [0, 2, 3])
        self.same(rules.broken_clauses(("a",)), [1, 2])

    def test_forty_broken_clauses(self):
        rules = Rules(("a",), (("either", "a", "a"),) * 40)
        self.same(rules.broken_clauses(()), list(range(40)))
        self.same(rules.broken_clauses(("a",)), [])

    def test_without_clauses_everything_is_legal(self):
        rules = Rules.free(*TEN_NAMES)
        self.same([rules.broken_clauses(()), rules.is_legal(())], [[], True])
        self.same([rules.broken_clauses(TEN_NAMES), rules.is_legal(TEN_NAMES)], [[], True])

    def test_a_changed_result_changes_no_later_one(self):
        rules = example()
        rules.broken_clauses(("a", "c")).append(7)
        rules.broken_clauses(("b",)).append(7)
        self.same([rules.broken_clauses(("a", "c")), rules.broken_clauses(("b",))], [[0], []])
        self.same([rules.is_legal(("b",)), rules.is_legal(("a", "c"))], [True, False])


class InvalidStateTest(Case):
    """All functions that take a state reject the same values."""

    def fails_everywhere(self, rules, state, index):
        legal = ()
        for call, arguments in ((rules.broken_clauses, (state,)), (rules.is_legal, (state,)),
                                (settings, (rules, state)), (majority, (rules, state, legal, legal)),
                                (majority, (rules, legal, state, legal)), (majority, (rules, legal, legal, state))):
            self.fails(InvalidState, {"index": index}, call, *arguments)

    def test_arguments_that_are_no_tuple(self):
        for value in VALUES_OF_ALL_KINDS:
            if not isinstance(value, tuple):
                self.fails_everywhere(example(), value, 0)
        self.fails_everywhere(example(), ["a", "b"], 0)

    def test_items_that_are_no_switches(self):
        for value in NO_NAMES + ("d", "ab", "needs", "A"):
            self.fails_everywhere(example(), (value,), 0)
            self.fails_everywhere(example(), ("b", value), 1)
            self.fails_everywhere(example(), ("a", "b", value, "a"), 2)

    def test_items_in_the_wrong_order(self):
        self.fails_everywhere(example(), ("c", "a"), 1)
        self.fails_everywhere(example(), ("c", "b", "a"), 1)
        self.fails_everywhere(example(), ("a", "c", "b"), 2)
        self.fails_everywhere(example(), ("b", "c", "a"), 2)

    def test_repeated_items(self):
        self.fails_everywhere(example(), ("a", "a"), 1)
        self.fails_everywhere(example(), ("a", "b", "b"), 2)
        self.fails_everywhere(example(), ("a", "b", "a"), 2)
        self.fails_everywhere(example(), ("a", "b", "c", "c"), 3)

    def test_the_first_fault_is_reported(self):
        self.fails_everywhere(example(), ("b", "a", "x", 5), 1)
        self.fails_everywhere(example(), ("x", "a", "a"), 0)
        self.fails_everywhere(example(), ("a", None, "a"), 1)

    def test_the_order_is_that_of_the_names_not_of_the_letters(self):
        rules = Rules.free("z", "a", "m")
        self.same(rules.is_legal(("z", "a", "m")), True)
        self.same(rules.is_legal(("z", "m")), True)
        self.fails_everywhere(rules, ("a", "z"), 1)
        self.fails_everywhere(rules, ("z", "m", "a"), 2)

    def test_a_long_tuple(self):
        self.fails_everywhere(Rules.free(*TEN_NAMES), TEN_NAMES + ("one",), 10)

    def test_exactly_the_tuples_in_order_are_states(self):
        names = ("c", "a", "b")
        rules = Rules.free(*names)
        places = {name: place for place, name in enumerate(names)}
        for size in range(5):
            for items in itertools.product(names, repeat=size):
                faults = [at for at in range(1, size) if places[items[at]] <= places[items[at - 1]]]
                if faults:
                    self.fails(InvalidState, {"index": faults[0]}, rules.is_legal, items)
                else:
                    self.same(rules.is_legal(items), True)


class IllegalStateTest(Case):
    """All functions that require a legal state report the first broken clause."""

    def fails_everywhere(self, rules, legal, state, error, index):
        for call, arguments in ((settings, (rules, state)), (majority, (rules, state, legal, legal)),
                                (majority, (rules, legal, state, legal)), (majority, (rules, legal, legal, state))):
            self.fails(error, {"index": index}, call, *arguments)

    def test_the_first_broken_clause(self):
        rules = Rules(("a", "b", "c"), (("needs", "a", "b"), ("excludes", "a", "a"), ("excludes", "b", "c")))
        self.fails_everywhere(rules, (), ("a",), IllegalState, 0)
        self.fails_everywhere(rules, (), ("a", "b"), IllegalState, 1)
        self.fails_everywhere(rules, (), ("b", "c"), IllegalState, 2)

    def test_an_invalid_state_comes_before_an_illegal_one(self):
        rules = Rules(("a", "b", "c"), (("excludes", "a", "a"),))
        self.fails_everywhere(rules, (), ("a", "x"), InvalidState, 1)
        self.fails_everywhere(rules, (), ("a", "c", "b"), InvalidState, 2)

    def test_the_empty_state(self):
        rules = Rules(("a", "b"), (("needs", "a", "b"), ("either", "a", "b")))
        self.fails_everywhere(rules, ("b",), (), IllegalState, 1)

    def test_each_clause_alone(self):
        names = ("a", "b")
        for clause in clauses_about(names):
            word, first, second = clause
            rules = Rules(names, (("needs", "a", "a"), clause))
            for state in ((), ("a",), ("b",), ("a", "b")):
                if (first in state, second in state) not in ALLOWED[word]:
                    self.fails(IllegalState, {"index": 1}, settings, rules, state)
                else:
                    self.assertIs(type(settings(rules, state)), tuple)


if __name__ == "__main__":
    unittest.main()
