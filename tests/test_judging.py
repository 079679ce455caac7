"""Point 15: redundant clauses, the first difference of two rules, and the first error of a log."""

import itertools
import unittest

from flagsteps.errors import DifferentNames
from flagsteps.learning import first_difference, first_error, redundant_clauses
from flagsteps.rules import Rules
from tests.helpers import (NO_NAMES, TEN_NAMES, VALUES_OF_ALL_KINDS, Case, Mixer, all_states, clauses_about, equal,
                           expected_legal, holds, mixed_rules, opposite, parts, rules_with_pairs_of_clauses)

NEEDS, EXCLUDES = ("needs", "a", "b"), ("excludes", "b", "c")


def example():
    return Rules(("a", "b", "c"), (NEEDS, EXCLUDES))


class ExamplesTest(Case):
    def test_redundant_clauses(self):
        self.same(redundant_clauses(example().with_clause(("excludes", "a", "c"))), [2])

    def test_first_difference(self):
        rules = example()
        self.same([first_difference(rules, rules.without_clause(0)), first_difference(rules, rules)],
                  [(("a",), 1), None])

    def test_first_error(self):
        rules = example()
        self.same([first_error(rules, [(), ("b",), ("a", "b")]), first_error(rules, [(), ("c",), ("b",)])], [None, 2])


class RedundantClausesTest(Case):
    def check(self, rules):
        expected = []
        for number, clause in enumerate(rules.clauses):
            others = rules.clauses[:number] + rules.clauses[number + 1:]
            states = [state for state in all_states(rules.names) if all(holds(each, state) for each in others)]
            if all(holds(clause, state) for state in states):
                expected.append(number)
        self.same(redundant_clauses(rules), expected)

    def test_all_pairs_of_clauses(self):
        for rules in rules_with_pairs_of_clauses(("a", "b")) + rules_with_pairs_of_clauses(("b", "c", "a"))[::5]:
            self.check(rules)

    def test_mixed_rules(self):
        for rules in mixed_rules():
            self.check(rules)

    def test_no_clauses(self):
        self.same(redundant_clauses(Rules.free("a", "b")), [])

    def test_one_clause(self):
        for clause in clauses_about(("a", "b")):
            rules = Rules(("a", "b"), (clause,))
            self.same(redundant_clauses(rules), [0] if clause in (("needs", "a", "a"), ("needs", "b", "b")) else [])

    def test_equal_clauses(self):
        self.same(redundant_clauses(Rules(("a", "b", "c"), (NEEDS, EXCLUDES, NEEDS))), [0, 2])
        self.same(redundant_clauses(Rules(("a", "b"), (NEEDS,) * 40)), list(range(40)))
        self.same(redundant_clauses(Rules(("a", "b"), (("either", "a", "b"), ("either", "b", "a")))), [0, 1])

    def test_needs_with_one_switch_twice(self):
        self.same(redundant_clauses(Rules(("a", "b"), (("needs", "a", "b"), ("needs", "a", "a")))), [1])
        self.same(redundant_clauses(Rules(("a", "b"), (("needs", "b", "b"), ("needs", "b", "b")))), [0, 1])

    def test_excludes_and_either_with_one_switch_twice(self):
        clauses = (("excludes", "a", "a"), ("either", "b", "b"), NEEDS, ("excludes", "a", "b"), ("either", "b", "a"))
        self.same(redundant_clauses(Rules(("a", "b"), clauses)), [0, 1, 2, 3, 4])
        self.same(redundant_clauses(Rules(("a", "b"), clauses[:2])), [])
        self.same(redundant_clauses(Rules(("a", "b"), clauses[:3])), [2])

    def test_each_of_a_circle_follows_from_the_others(self):
        names = TEN_NAMES[:4]
        clauses = equal(names[0], names[1]) + equal(names[1], names[2]) + equal(names[2], names[0])
        self.same(redundant_clauses(Rules(names, clauses)), [0, 1, 2, 3, 4, 5])
        self.same(redundant_clauses(Rules(names, clauses[:5])), [1, 3, 4])
        self.same(redundant_clauses(Rules(names, clauses[:4])), [])

    def test_if_the_others_allow_no_state_everything_follows(self):
        clauses = (("either", "a", "a"), ("excludes", "a", "a"), ("needs", "b", "c"))
        self.same(redundant_clauses(Rules(("a", "b", "c"), clauses)), [2])
        self.same(redundant_clauses(Rules(("a", "b", "c"), clauses + clauses[:1])), [0, 2, 3])

    def test_ten_names_in_a_chain(self):
        chain = tuple(("needs", TEN_NAMES[at], TEN_NAMES[at + 1]) for at in range(9))
        self.same(redundant_clauses(Rules(TEN_NAMES, chain)), [])
        self.same(redundant_clauses(Rules(TEN_NAMES, (("needs", "one", "lastname"),) + chain)), [0])

    def test_the_rules_stay_as_they_are(self):
        rules = example().with_clause(NEEDS)
        redundant_clauses(rules).clear()
        self.same([redundant_clauses(rules), parts(rules)], [[0, 2], (("a", "b", "c"), (NEEDS, EXCLUDES, NEEDS))])


class FirstDifferenceTest(Case):
    def check(self, rules, other):
        expected = None
        for state in reversed(all_states(rules.names)):
            numbers = [number for number, each in enumerate((rules, other)) if state in expected_legal(each)]
            if len(numbers) == 1:
                expected = (state, numbers[0])
        self.same(first_difference(rules, other), expected)

    def test_single_clauses(self):
        names = ("c", "a", "b")
        several = [Rules.free(*names)] + [Rules(names, (clause,)) for clause in clauses_about(names)]
        for rules, other in itertools.product(several, repeat=2):
            self.check(rules, other)

    def test_mixed_rules(self):
        by_names = {}
        for rules in mixed_rules()[::2]:
            by_names.setdefault(rules.names, []).append(rules)
        self.assertGreater(len(by_names), 1)
        for several in by_names.values():
            for rules, other in zip(several, several[1:]):
                self.check(rules, other)
                self.check(other, rules)

    def test_the_number_is_that_of_the_rules_by_which_the_state_is_legal(self):
        free, strict = Rules.free("a", "b"), Rules(("a", "b"), (("excludes", "a", "b"),))
        self.same([first_difference(free, strict), first_difference(strict, free)],
                  [(("a", "b"), 0), (("a", "b"), 1)])

    def test_the_first_state_in_the_order_of_legal_states(self):
        rules = Rules(("b", "a", "c"), (("needs", "b", "a"), ("needs", "a", "c"), ("needs", "c", "b")))
        self.same(first_difference(rules, Rules.free("b", "a", "c")), (("b",), 1))
        other = Rules(("b", "a", "c"), (("excludes", "b", "a"), ("excludes", "b", "c"), ("excludes", "a", "c")))
        self.same(first_difference(Rules.free("b", "a", "c"), other), (("b", "a"), 0))
        self.same(first_difference(rules, other), (("b",), 1))
        self.same(first_difference(Rules(("a",), (("either", "a", "a"),)), Rules.free("a")), ((), 1))

    def test_ten_names(self):
        rules = Rules(TEN_NAMES, tuple(("needs", TEN_NAMES[at - 1], TEN_NAMES[at]) for at in range(10)))
        other = Rules(TEN_NAMES, tuple(("needs", TEN_NAMES[at], TEN_NAMES[at - 1]) for at in range(10)))
        self.same(first_difference(rules, other), None)
        never = rules.with_clause(("excludes", "e", "f"))
        self.same([first_difference(rules, never), first_difference(never, other)], [(TEN_NAMES, 0), (TEN_NAMES, 1)])

    def test_equal_legal_states_with_other_clauses(self):
        rules = Rules(("a", "b"), opposite("a", "b"))
        self.same(first_difference(rules, Rules(("a", "b"), opposite("b", "a")[::-1])), None)
        impossible = Rules(("a", "b"), (("either", "a", "a"), ("excludes", "a", "a")))
        self.same(first_difference(impossible, Rules(("a", "b"), equal("a", "b") + opposite("a", "b"))), None)
        self.same(first_difference(impossible, rules), (("a",), 1))

    def test_different_names(self):
        rules = Rules.free("a", "b")
        for names in (("b", "a"), ("a",), ("a", "b", "c"), ("a", "c"), ("b",)):
            self.fails(DifferentNames, {}, first_difference, rules, Rules.free(*names))
            self.fails(DifferentNames, {}, first_difference, Rules.free(*names), rules)


class FirstErrorTest(Case):
    def test_no_error(self):
        rules = example()
        for log in ([], [()], [("b",)], [("a", "b"), ("b",), (), ("c",), (), ("b",), ("a", "b")]):
            self.same(first_error(rules, log), None)

    def test_arguments_that_are_no_list(self):
        for value in VALUES_OF_ALL_KINDS:
            if not isinstance(value, list):
                self.same(first_error(example(), value), 0)
        for value in (((), ("b",)), {}, {(): True}, "b"):
            self.same(first_error(example(), value), 0)

    def test_an_illegal_state(self):
        self.same(first_error(example(), [("a",)]), 0)
        self.same(first_error(example(), [(), ("a",)]), 1)
        self.same(first_error(example(), [("b",), ("b", "c"), ("b",)]), 1)
        self.same(first_error(example(), [(), ("b",), ("a", "b"), ("a",), ()]), 3)

    def test_an_illegal_first_state(self):
        rules = Rules(("a", "b"), (("either", "a", "b"),))
        self.same(first_error(rules, [(), ("a",)]), 0)
        self.same(first_error(rules, [("a",), ()]), 1)

    def test_an_invalid_state(self):
        for value in VALUES_OF_ALL_KINDS:
            if value not in ((), ("a",)):
                self.same(first_error(example(), [value]), 0)
                self.same(first_error(example(), [("b",), (), value]), 2)
        for value in NO_NAMES + ("d", "ab"):
            self.same(first_error(example(), [(), (value,)]), 1)
            self.same(first_error(example(), [("b",), ("a", "b", value)]), 1)
        self.same(first_error(example(), [("b",), ("b", "a")]), 1)
        self.same(first_error(example(), [("b",), ["a", "b"]]), 1)

    def test_a_repeated_state(self):
        self.same(first_error(example(), [("b",), ("b",)]), 1)
        self.same(first_error(example(), [("b",), (), (), ("b",)]), 2)
        self.same(first_error(example(), [(), ("b",), ()]), None)

    def test_a_far_state(self):
        self.same(first_error(example(), [(), ("a", "b")]), 1)
        self.same(first_error(example(), [("a", "b"), ()]), 1)
        self.same(first_error(example(), [("b",), ("c",), ()]), 1)
        self.same(first_error(example(), [("b",), ("a", "b"), ("b",), ("c",)]), 3)

    def test_the_item_before_is_the_one_that_counts(self):
        self.same(first_error(example(), [(), ("b",), ("c",)]), 2)
        self.same(first_error(Rules.free("a", "b", "c"), [(), ("a",), ("a", "b"), ("a", "b", "c"), ("a",)]), 4)

    def test_the_first_error_is_reported(self):
        self.same(first_error(example(), [("b",), ("b",), ("a",), None]), 1)
        self.same(first_error(example(), [("b",), None, ("b",), ("b",)]), 1)
        self.same(first_error(example(), [None, ("a",), ("b",), ("b",)]), 0)

    def test_mixed_logs(self):
        mixer = Mixer()
        for rules in mixed_rules():
            names = rules.names
            legal = expected_legal(rules)
            log = [mixer.one_of(legal)] if legal else [()]
            for _ in range(12):
                near = [state for state in legal if len(set(state) ^ set(log[-1])) == 1]
                log.append(mixer.one_of(near or legal or [()]))
            if mixer.below(2):
                log[mixer.below(13)] = mixer.one_of(all_states(names))
            expected = [index for index, state in enumerate(log)
                        if state not in legal or index and len(set(state) ^ set(log[index - 1])) != 1]
            self.same(first_error(rules, log), expected[0] if expected else None)

    def test_ten_names(self):
        rules = Rules.free(*TEN_NAMES)
        log = [TEN_NAMES[:many] for many in range(11)]
        self.same(first_error(rules, log), None)
        self.same(first_error(rules, log + [TEN_NAMES[1:], TEN_NAMES[2:], TEN_NAMES[:1]]), 13)

    def test_the_list_is_not_modified(self):
        log = [(), ("b",), None, ("b",)]
        self.same([first_error(example(), log), first_error(example(), log)], [2, 2])
        self.same(log, [(), ("b",), None, ("b",)])


if __name__ == "__main__":
    unittest.main()
