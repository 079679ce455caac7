"""Point 16: lists of operations, executed all or none, and workbenches after a list of operations."""

import unittest

from flagsteps.editing import Workbench
from flagsteps.errors import (InvalidClause, InvalidName, InvalidOperation, InvalidRules, LastSwitch, TooManySwitches,
                              UnknownClause, UnknownSwitch)
from flagsteps.rules import Rules
from tests.helpers import TEN_NAMES, VALUES_OF_ALL_KINDS, Case, parts
from tests.test_editing import EITHER, ERRORS, EXCLUDES, NEEDS, everything, example, prepared, shown

# One operation of each kind, one after another from the example, with their results.
ALL_KINDS = [("add_switch", "d"), ("rename", "a", "x"), ("add_clause", ("either", "x", "d")), ("remove_clause", 1),
             ("remove_switch", "b")]
RESULTS = [4, None, 2, EXCLUDES, (("needs", "x", "b"),)]
# Tuples that are no operations, because of their name or the number of their arguments.
NO_OPERATIONS = [
    (), ("add_clause",), ("add_clause", NEEDS, NEEDS), ("add_clause",) + NEEDS, ("remove_clause",),
    ("remove_clause", 0, 0), ("add_switch",), ("add_switch", "d", "e"), ("remove_switch",), ("remove_switch", "a", "b"),
    ("rename",), ("rename", "a"), ("rename", "a", "d", "e"), ("undo",), ("redo",), ("undo", 0), ("versions",),
    ("history",), ("present_rules",), ("apply_all", []), ("apply_all", [("add_switch", "d")]), ("replay", []),
    ("Add_switch", "d"), ("add_switch ", "d"), ("addswitch", "d"), ("", "d"), ("with_clause", NEEDS),
    ("_execute", []), ("__init__", 0), (("add_switch", "d"),), (["add_switch"], "d"), (("add_switch",), "d"),
    ([], "d"), (None, "d"), (0, "d"), (True, "d"), ("d", "add_switch"), (b"add_switch", "d"), ({}, "d"),
]


def wrong_items():
    found = [value for value in VALUES_OF_ALL_KINDS] + NO_OPERATIONS
    return found + [["add_switch", "d"], ["remove_clause", 0], "add_switch d", "add_switch", {"add_switch": "d"}]


class ExamplesTest(Case):
    def test_apply_all(self):
        workbench = Workbench(example())
        self.same(workbench.apply_all([("add_switch", "d"), ("remove_clause", 0)]), [4, ("needs", "a", "b")])

    def test_invalid_operation(self):
        workbench = Workbench(example())
        self.fails(InvalidOperation, {"index": 1}, workbench.apply_all, [("add_switch", "d"), ("rename", "d")])

    def test_replay(self):
        workbench = Workbench.replay(example(), [("rename", "c", "d")])
        self.same(workbench.present_rules.names, ("a", "b", "d"))


class ApplyAllTest(Case):
    def test_all_kinds(self):
        workbench = Workbench(example())
        self.same(workbench.apply_all(ALL_KINDS), RESULTS)
        self.same(workbench.history, ALL_KINDS)
        self.same(parts(workbench.present_rules), (("x", "c", "d"), (("either", "x", "d"),)))

    def test_the_same_as_one_by_one(self):
        together, single = Workbench(example()), Workbench(example())
        together.apply_all(ALL_KINDS)
        for word, *arguments in ALL_KINDS:
            getattr(single, word)(*arguments)
        self.same(shown(together), shown(single))

    def test_behind_other_operations(self):
        workbench = prepared()
        self.same(workbench.apply_all([("rename", "e", "d"), ("remove_clause", 0)]), [None, NEEDS])
        self.same(workbench.history, [("add_switch", "d"), ("rename", "d", "e"), ("rename", "e", "d"),
                                      ("remove_clause", 0)])

    def test_undo_takes_back_one_operation(self):
        workbench = Workbench(example())
        seen = [shown(workbench)]
        for operation in ALL_KINDS:
            getattr(workbench, operation[0])(*operation[1:])
            seen.append(shown(workbench))
        workbench = Workbench(example())
        workbench.apply_all(ALL_KINDS)
        for expected in seen[-2::-1]:
            self.same([workbench.undo(), shown(workbench)], [True, expected])
        self.same(workbench.undo(), False)
        for expected in seen[1:]:
            self.same([workbench.redo(), shown(workbench)], [True, expected])
        self.same(workbench.redo(), False)

    def test_an_empty_list_changes_nothing(self):
        workbench = prepared()
        expected = everything(workbench)
        self.same(len(expected), 3)
        self.same([workbench.apply_all([]), everything(workbench)], [[], expected])

    def test_operations_leave_nothing_for_redo(self):
        workbench = prepared()
        workbench.apply_all([("add_clause", EITHER)])
        self.same([workbench.redo(), len(workbench.history)], [False, 3])

    def test_the_same_operation_twice(self):
        workbench = Workbench(Rules(("a", "b"), (NEEDS, ("either", "a", "b"))))
        self.same(workbench.apply_all([("remove_clause", 0)] * 2), [NEEDS, ("either", "a", "b")])
        self.same(workbench.apply_all([("add_clause", NEEDS)] * 3), [0, 1, 2])

    def test_the_history_of_another_workbench(self):
        first, second = Workbench(example()), Workbench(example())
        first.apply_all(ALL_KINDS)
        self.same(second.apply_all(first.history), RESULTS)
        self.same(shown(second), shown(first))

    def test_the_list_is_neither_modified_nor_kept(self):
        operations = list(ALL_KINDS)
        workbench = Workbench(example())
        results = workbench.apply_all(operations)
        self.same(operations, ALL_KINDS)
        operations.clear()
        results.clear()
        self.same(workbench.history, ALL_KINDS)
        self.same([workbench.undo() for _ in range(6)], [True] * 5 + [False])


class InvalidOperationTest(Case):
    """What is no list of operations is reported before anything is executed."""

    def fails_everywhere(self, index, operations):
        workbench = prepared()
        expected = everything(workbench)
        self.fails(InvalidOperation, {"index": index}, workbench.apply_all, operations)
        self.same(everything(workbench), expected)
        self.fails(InvalidOperation, {"index": index}, Workbench.replay, example(), operations)

    def test_arguments_that_are_no_list(self):
        for value in VALUES_OF_ALL_KINDS:
            if not isinstance(value, list):
                self.fails_everywhere(0, value)
        for value in ((), tuple(ALL_KINDS), ("add_switch", "d"), (("add_switch", "d"),), {}):
            self.fails_everywhere(0, value)

    def test_items_that_are_no_operations(self):
        for value in wrong_items():
            self.fails_everywhere(0, [value])
            self.fails_everywhere(1, [("add_switch", "f"), value])
            self.fails_everywhere(2, [("add_switch", "f"), ("add_switch", "g"), value, None])

    def test_before_the_error_of_an_operation(self):
        for value in wrong_items():
            self.fails_everywhere(1, [("add_switch", "a"), value])
            self.fails_everywhere(3, [("remove_clause", 9), ("rename", "z", "a"), ("add_clause", None), value])

    def test_the_first_wrong_item_is_reported(self):
        self.fails_everywhere(1, [("add_switch", "f"), ("rename", "f"), None, ("undo",)])

    def test_wrong_arguments_are_no_invalid_operations(self):
        for value in VALUES_OF_ALL_KINDS:
            if value != NEEDS:
                self.fails(InvalidClause, {}, Workbench(example()).apply_all, [("add_clause", value)])
            if not isinstance(value, str) or value in ("", "a"):
                self.fails(InvalidName, {}, Workbench(example()).apply_all, [("add_switch", value)])
                self.fails(InvalidName, {}, Workbench(example()).apply_all, [("rename", "a", value)])
            if isinstance(value, bool) or value not in (0, 1):
                self.fails(UnknownClause, {}, Workbench(example()).apply_all, [("remove_clause", value)])
            if value != "a":
                self.unknown(value, Workbench(example()).apply_all, [("remove_switch", value)])
                self.unknown(value, Workbench(example()).apply_all, [("rename", value, "x")])


class FailingOperationTest(Case):
    def test_an_error_in_the_middle_changes_nothing(self):
        good = [("rename", "b", "g"), ("rename", "g", "b"), ("add_switch", "f"), ("remove_switch", "f")]
        workbench = prepared()
        expected = everything(workbench)
        self.same(len(expected), 3)
        for error, attributes, word, arguments in ERRORS:
            for many in range(len(good) + 1):
                operations = good[:many] + [(word,) + arguments] + good[many:]
                self.fails(error, attributes, workbench.apply_all, operations)
                self.same(everything(workbench), expected)
                self.fails(InvalidOperation, {"index": many}, Workbench.replay, workbench.present_rules, operations)

    def test_the_error_of_the_first_operation_that_fails(self):
        operations = [("add_switch", "d"), ("remove_clause", 2), ("add_switch", "d"), ("rename", "x", "y")]
        self.fails(UnknownClause, {}, Workbench(example()).apply_all, operations)
        self.fails(InvalidName, {}, Workbench(example()).apply_all, operations[:1] + operations[2:])
        self.fails(UnknownSwitch, {"name": "x"}, Workbench(example()).apply_all, operations[:1] + operations[3:])
        for first, index in ((1, 1), (2, 1), (3, 1)):
            self.fails(InvalidOperation, {"index": index}, Workbench.replay, example(),
                       operations[:1] + operations[first:])

    def test_an_operation_may_depend_on_those_before_it(self):
        operations = [("rename", "a", "x"), ("rename", "x", "a"), ("rename", "a", "x"), ("add_clause", NEEDS)]
        self.fails(InvalidClause, {}, Workbench(example()).apply_all, operations)
        self.fails(InvalidOperation, {"index": 3}, Workbench.replay, example(), operations)
        operations[3] = ("add_clause", ("needs", "x", "b"))
        self.same(Workbench(example()).apply_all(operations), [None, None, None, 2])
        self.same(Workbench.replay(example(), operations).history, operations)

    def test_errors_at_the_limits(self):
        for rules, error, attributes, operations in (
                (Rules(("a", "b"), (NEEDS,) * 38), InvalidRules, {"part": "clauses", "index": 40},
                 [("add_clause", NEEDS)] * 3),
                (Rules.free(*TEN_NAMES[:8]), TooManySwitches, {},
                 [("add_switch", "x"), ("add_switch", "y"), ("add_switch", "z")]),
                (Rules.free("a", "b", "c"), LastSwitch, {},
                 [("remove_switch", "b"), ("remove_switch", "a"), ("remove_switch", "c")])):
            workbench = Workbench(rules)
            before = everything(workbench)
            self.fails(error, attributes, workbench.apply_all, operations)
            self.same(everything(workbench), before)
            self.fails(InvalidOperation, {"index": 2}, Workbench.replay, rules, operations)
            self.same(len(workbench.apply_all(operations[:2])), 2)


class ReplayTest(Case):
    def test_all_kinds(self):
        workbench = Workbench.replay(example(), ALL_KINDS)
        expected = Workbench(example())
        expected.apply_all(ALL_KINDS)
        self.assertIs(type(workbench), Workbench)
        self.same(shown(workbench), shown(expected))

    def test_no_operations(self):
        self.same(shown(Workbench.replay(example(), [])), shown(Workbench(example())))

    def test_replayed_operations_can_be_undone_one_by_one(self):
        workbench = Workbench.replay(example(), ALL_KINDS)
        self.same([workbench.redo()] + [workbench.undo() for _ in range(6)], [False] + [True] * 5 + [False])
        self.same(parts(workbench.present_rules), parts(example()))
        self.same([workbench.redo() for _ in range(6)], [True] * 5 + [False])

    def test_the_history_leads_to_the_present_rules(self):
        workbench = prepared()
        again = Workbench.replay(example(), workbench.history)
        self.same(shown(again), shown(workbench))
        self.same(again.redo(), False)

    def test_the_list_and_the_rules_are_neither_modified_nor_kept(self):
        operations, rules = list(ALL_KINDS), example()
        workbench = Workbench.replay(rules, operations)
        self.same([operations, parts(rules)], [ALL_KINDS, parts(example())])
        operations.clear()
        self.same(workbench.history, ALL_KINDS)

    def test_workbenches_do_not_disturb_each_other(self):
        one, other = Workbench.replay(example(), ALL_KINDS), Workbench.replay(example(), ALL_KINDS)
        one.undo()
        self.same([one.history, other.history], [ALL_KINDS[:4], ALL_KINDS])


if __name__ == "__main__":
    unittest.main()
