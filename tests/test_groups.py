"""Point 5: constants, bound groups and settings."""

import itertools
import unittest

from flagsteps.errors import IllegalState, Impossible, InvalidState
from flagsteps.groups import bound_groups, constants, settings
from flagsteps.rules import Rules
from tests.helpers import (NO_NAMES, TEN_NAMES, VALUES_OF_ALL_KINDS, Case, equal, expected_constants, expected_groups,
                           expected_legal, mixed_rules, opposite, rules_with_pairs_of_clauses)


class ExamplesTest(Case):
    def test_constants_and_bound_groups(self):
        rules = Rules(("a", "b", "c"), (("needs", "a", "b"), ("needs", "b", "a"), ("either", "c", "c")))
        self.same([constants(rules), bound_groups(rules)], [{"c": True}, [(("a", True), ("b", True))]])

    def test_impossible(self):
        self.fails(Impossible, {}, constants, Rules(("a",), (("either", "a", "a"), ("excludes", "a", "a"))))

    def test_settings(self):
        rules = Rules(("a", "b", "c"), (("needs", "a", "b"), ("needs", "b", "a")))
        self.same(settings(rules, ("a", "b", "c")), (True,))


class ConstantsTest(Case):
    def test_none(self):
        self.same(constants(Rules.free("a", "b")), {})
        self.same(constants(Rules.free(*TEN_NAMES)), {})

    def test_on_and_off_in_the_order_of_the_names(self):
        rules = Rules(("z", "a", "m", "b"), (("either", "m", "m"), ("excludes", "a", "a"), ("either", "z", "z")))
        self.same(constants(rules), {"z": True, "a": False, "m": True})

    def test_constants_that_follow_from_several_clauses(self):
        rules = Rules(("a", "b", "c"), (("needs", "a", "b"), ("excludes", "a", "b"), ("either", "a", "c")))
        self.same(constants(rules), {"a": False, "c": True})

    def test_only_one_legal_state(self):
        rules = Rules(("a", "b", "c"), (("either", "b", "b"), ("excludes", "b", "a"), ("needs", "c", "a")))
        self.same([constants(rules), bound_groups(rules)], [{"a": False, "b": True, "c": False}, []])
        self.same(settings(rules, ("b",)), ())

    def test_one_name(self):
        self.same(constants(Rules.free("a")), {})
        self.same(constants(Rules(("a",), (("either", "a", "a"),))), {"a": True})
        self.same(constants(Rules(("a",), (("excludes", "a", "a"),))), {"a": False})


class BoundGroupsTest(Case):
    def test_none(self):
        self.same(bound_groups(Rules.free("a", "b", "c")), [])
        self.same(bound_groups(Rules(("a", "b"), (("needs", "a", "b"),))), [])

    def test_equal_switches(self):
        self.same(bound_groups(Rules(("a", "b", "c"), equal("c", "a"))), [(("a", True), ("c", True))])

    def test_opposite_switches(self):
        self.same(bound_groups(Rules(("a", "b", "c"), opposite("c", "b"))), [(("b", True), ("c", False))])

    def test_equal_and_opposite_switches_of_one_group(self):
        rules = Rules(("d", "a", "c", "b"), opposite("a", "b") + equal("b", "d"))
        self.same(bound_groups(rules), [(("d", True), ("a", False), ("b", True))])

    def test_two_opposites_of_the_first_switch_are_equal(self):
        rules = Rules(("a", "b", "c"), opposite("a", "b") + opposite("a", "c"))
        self.same(bound_groups(rules), [(("a", True), ("b", False), ("c", False))])

    def test_groups_are_in_the_order_of_their_first_switches(self):
        rules = Rules(("z", "y", "x", "w", "v"), opposite("w", "y") + equal("x", "z"))
        self.same(bound_groups(rules), [(("z", True), ("x", True)), (("y", True), ("w", False))])

    def test_a_circle_of_needs(self):
        clauses = tuple(("needs", TEN_NAMES[at - 1], TEN_NAMES[at]) for at in range(10))
        self.same(bound_groups(Rules(TEN_NAMES, clauses)), [tuple((name, True) for name in TEN_NAMES)])

    def test_five_groups(self):
        clauses = sum([opposite(TEN_NAMES[at], TEN_NAMES[at + 5]) for at in range(5)], ())
        self.same(bound_groups(Rules(TEN_NAMES, clauses)),
                  [((TEN_NAMES[at], True), (TEN_NAMES[at + 5], False)) for at in range(5)])

    def test_constants_are_not_bound(self):
        rules = Rules(("a", "b", "c"), (("either", "a", "a"), ("either", "b", "b"), ("excludes", "c", "c")))
        self.same([constants(rules), bound_groups(rules)], [{"a": True, "b": True, "c": False}, []])

    def test_binding_that_follows_through_another_switch(self):
        rules = Rules(("a", "b", "c"), (("needs", "a", "c"), ("needs", "c", "b"), ("needs", "b", "a")))
        self.same(bound_groups(rules), [(("a", True), ("b", True), ("c", True))])


class ImpossibleTest(Case):
    def test_both_functions(self):
        clauses = (("either", "a", "b"), ("excludes", "a", "b")) + equal("a", "b")
        for rules in (Rules(("a", "b", "c"), clauses),
                      Rules(("a",), (("either", "a", "a"), ("excludes", "a", "a")))):
            self.fails(Impossible, {}, constants, rules)
            self.fails(Impossible, {}, bound_groups, rules)

    def test_settings_report_the_state(self):
        rules = Rules(("a",), (("either", "a", "a"), ("excludes", "a", "a")))
        self.fails(IllegalState, {"index": 0}, settings, rules, ())
        self.fails(IllegalState, {"index": 1}, settings, rules, ("a",))
        self.fails(InvalidState, {"index": 0}, settings, rules, ("b",))


class SettingsTest(Case):
    def test_no_groups(self):
        self.same(settings(Rules.free("a", "b"), ("a",)), ())
        self.same(settings(Rules(("a", "b"), (("either", "a", "a"),)), ("a", "b")), ())

    def test_one_boolean_for_each_group(self):
        rules = Rules(("a", "b", "c", "d"), equal("a", "c") + opposite("b", "d"))
        self.same(settings(rules, ("d",)), (False, False))
        self.same(settings(rules, ("b",)), (False, True))
        self.same(settings(rules, ("a", "c", "d")), (True, False))
        self.same(settings(rules, ("a", "b", "c")), (True, True))

    def test_wrong_states(self):
        rules = Rules(("a", "b"), (("needs", "a", "b"),))
        for value in VALUES_OF_ALL_KINDS:
            if value == ("a",):
                self.fails(IllegalState, {"index": 0}, settings, rules, value)
            elif value != ():
                self.fails(InvalidState, {"index": 1 if value == ("b", "a") else 0}, settings, rules, value)
        for value in NO_NAMES:
            self.fails(InvalidState, {"index": 1}, settings, rules, ("a", value))


class AllRulesTest(Case):
    def check(self, rules):
        if not expected_legal(rules):
            self.fails(Impossible, {}, constants, rules)
            self.fails(Impossible, {}, bound_groups, rules)
            return
        groups = expected_groups(rules)
        self.same(constants(rules), expected_constants(rules))
        self.same(bound_groups(rules), groups)
        for state in expected_legal(rules)[::3]:
            self.same(settings(rules, state), tuple(group[0][0] in state for group in groups))

    def test_all_pairs_of_clauses(self):
        for rules in rules_with_pairs_of_clauses(("b", "c", "a")):
            self.check(rules)

    def test_bound_pairs_of_four_names(self):
        names = ("d", "b", "a", "c")
        for bind, other in itertools.product((equal, opposite), repeat=2):
            for pair, next_pair in itertools.product(itertools.combinations(names, 2), repeat=2):
                self.check(Rules(names, bind(*pair) + other(*next_pair)))

    def test_mixed_rules(self):
        for rules in mixed_rules():
            self.check(rules)


class ReturnedValuesTest(Case):
    def test_changed_results_change_no_later_ones(self):
        rules = Rules(("a", "b", "c"), equal("a", "b") + (("either", "c", "c"),))
        constants(rules).clear()
        constants(rules)["a"] = False
        bound_groups(rules).clear()
        self.same(constants(rules), {"c": True})
        self.same(bound_groups(rules), [(("a", True), ("b", True))])
        self.same(settings(rules, ("c",)), (False,))


if __name__ == "__main__":
    unittest.main()
