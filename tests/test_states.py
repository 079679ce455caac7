"""Point 4: all legal states, their number, and majorities."""

import inspect
import itertools
import unittest

from flagsteps.errors import IllegalState, InvalidState
from flagsteps.rules import Rules
from flagsteps.states import count_legal, legal_states, majority
from tests.helpers import (TEN_NAMES, VALUES_OF_ALL_KINDS, Case, expected_legal, mixed_rules,
                           rules_with_pairs_of_clauses)


def example():
    return Rules(("a", "b", "c"), (("needs", "a", "b"), ("excludes", "b", "c")))


class ExamplesTest(Case):
    def test_legal_states(self):
        rules = example()
        self.same([list(legal_states(rules)), count_legal(rules)], [[(), ("b",), ("c",), ("a", "b")], 4])

    def test_majority(self):
        self.same(majority(example(), ("a", "b"), ("b",), ("c",)), ("b",))


class LegalStatesTest(Case):
    def test_order_without_clauses(self):
        self.same(list(legal_states(Rules.free("a", "b", "c", "d"))), [
            (), ("a",), ("b",), ("c",), ("d",),
            ("a", "b"), ("a", "c"), ("a", "d"), ("b", "c"), ("b", "d"), ("c", "d"),
            ("a", "b", "c"), ("a", "b", "d"), ("a", "c", "d"), ("b", "c", "d"), ("a", "b", "c", "d")])

    def test_the_order_is_that_of_the_names_not_of_the_letters(self):
        self.same(list(legal_states(Rules.free("z", "a", "m"))),
                  [(), ("z",), ("a",), ("m",), ("z", "a"), ("z", "m"), ("a", "m"), ("z", "a", "m")])

    def test_one_name(self):
        self.same(list(legal_states(Rules.free("a"))), [(), ("a",)])
        self.same(list(legal_states(Rules(("a",), (("either", "a", "a"),)))), [("a",)])
        self.same(list(legal_states(Rules(("a",), (("excludes", "a", "a"),)))), [()])

    def test_ten_names(self):
        rules = Rules.free(*TEN_NAMES)
        self.same(list(legal_states(rules)), expected_legal(rules))
        self.same(count_legal(rules), 1024)

    def test_ten_names_and_forty_clauses(self):
        pairs = list(itertools.combinations(TEN_NAMES, 2))[:40]
        rules = Rules(TEN_NAMES, tuple(("excludes", first, second) for first, second in pairs))
        self.same(list(legal_states(rules)), expected_legal(rules))

    def test_only_one_legal_state(self):
        rules = Rules(("a", "b"), (("either", "a", "a"), ("excludes", "a", "b")))
        self.same([list(legal_states(rules)), count_legal(rules)], [[("a",)], 1])

    def test_no_legal_state(self):
        rules = Rules(("a", "b"), (("either", "a", "a"), ("excludes", "a", "a")))
        self.same([list(legal_states(rules)), count_legal(rules)], [[], 0])

    def test_all_pairs_of_clauses(self):
        for rules in rules_with_pairs_of_clauses(("b", "c", "a")):
            self.same(list(legal_states(rules)), expected_legal(rules))
            self.same(count_legal(rules), len(expected_legal(rules)))

    def test_mixed_rules(self):
        for rules in mixed_rules():
            self.same(list(legal_states(rules)), expected_legal(rules))
            self.same(count_legal(rules), len(expected_legal(rules)))

    def test_it_is_a_generator(self):
        self.assertTrue(inspect.isgenerator(legal_states(example())))

    def test_nothing_is_looked_at_before_the_first_value_is_requested(self):
        self.assertTrue(inspect.isgenerator(legal_states(None)))

    def test_generators_do_not_disturb_each_other(self):
        rules = example()
        one, other = legal_states(rules), legal_states(rules)
        self.same([next(one), next(one), next(other), next(one), next(other)], [(), ("b",), (), ("c",), ("b",)])
        self.same([list(one), list(other)], [[("a", "b")], [("c",), ("a", "b")]])

    def test_a_changed_list_changes_no_later_result(self):
        rules = example()
        list(legal_states(rules)).clear()
        self.same(list(legal_states(rules)), [(), ("b",), ("c",), ("a", "b")])


class MajorityTest(Case):
    def test_all_triples_without_clauses(self):
        rules = Rules.free("c", "a", "b")
        for states in itertools.product(list(legal_states(rules)), repeat=3):
            expected = tuple(name for name in ("c", "a", "b") if [name in state for state in states].count(True) >= 2)
            self.same(majority(rules, *states), expected)

    def test_the_majority_is_legal(self):
        for rules in mixed_rules()[::4]:
            states = list(legal_states(rules))[:8]
            for triple in itertools.product(states, repeat=3):
                self.same(rules.is_legal(majority(rules, *triple)), True)

    def test_empty_and_full_states(self):
        rules = Rules.free(*TEN_NAMES)
        self.same(majority(rules, (), (), TEN_NAMES), ())
        self.same(majority(rules, TEN_NAMES, (), TEN_NAMES), TEN_NAMES)

    def test_one_state_three_times(self):
        self.same(majority(example(), ("a", "b"), ("a", "b"), ("a", "b")), ("a", "b"))

    def test_values_of_all_kinds(self):
        rules = Rules.free("a", "b")
        for value in VALUES_OF_ALL_KINDS:
            if value not in ((), ("a",)):
                index = 1 if value == ("b", "a") else 0
                self.fails(InvalidState, {"index": index}, majority, rules, value, (), ())
                self.fails(InvalidState, {"index": index}, majority, rules, (), value, ())
                self.fails(InvalidState, {"index": index}, majority, rules, (), (), value)

    def test_arguments_are_checked_from_left_to_right(self):
        rules = Rules(("a", "b"), (("needs", "a", "b"),))
        self.fails(IllegalState, {"index": 0}, majority, rules, ("a",), ("b", "a"), None)
        self.fails(InvalidState, {"index": 1}, majority, rules, ("b", "a"), ("a",), None)
        self.fails(IllegalState, {"index": 0}, majority, rules, (), ("a",), None)
        self.fails(InvalidState, {"index": 0}, majority, rules, (), None, ("a",))
        self.fails(InvalidState, {"index": 2}, majority, rules, ("a", "b"), ("a", "b", "b"), ("a",))

    def test_the_first_broken_clause_of_the_first_illegal_state(self):
        rules = Rules(("a", "b"), (("either", "a", "b"), ("excludes", "a", "b")))
        self.fails(IllegalState, {"index": 1}, majority, rules, ("a", "b"), (), ())
        self.fails(IllegalState, {"index": 0}, majority, rules, ("a",), (), ("a", "b"))
        self.fails(IllegalState, {"index": 1}, majority, rules, ("a",), ("b",), ("a", "b"))


if __name__ == "__main__":
    unittest.main()
