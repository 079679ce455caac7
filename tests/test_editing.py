"""Point 16: workbenches, their operations, and operations undone and executed again."""

import inspect
import unittest

from flagsteps.editing import Workbench
from flagsteps.errors import (InvalidClause, InvalidName, InvalidRules, LastSwitch, StepError, TooManySwitches,
                              UnknownClause, UnknownSwitch)
from flagsteps.rules import Rules
from tests.helpers import NO_NAMES, TEN_NAMES, VALUES_OF_ALL_KINDS, Case, Mixer, parts

NEEDS, EXCLUDES, EITHER = ("needs", "a", "b"), ("excludes", "b", "c"), ("either", "a", "c")
FORTY = (NEEDS,) * 40


def example():
    return Rules(("a", "b", "c"), (NEEDS, EXCLUDES))


def versions_of(workbench):
    return [parts(rules) for rules in workbench.versions()]


def shown(workbench):
    """All that a workbench tells."""
    return [parts(workbench.present_rules), workbench.history, versions_of(workbench)]


def everything(workbench):
    """All that can be seen of a workbench, also what redo makes of it; all of this is undone again."""
    seen = [shown(workbench)]
    while workbench.redo():
        seen.append(shown(workbench))
    for _ in seen[1:]:
        workbench.undo()
    return seen


def prepared(rules=None):
    """A workbench with operations in effect and two undone ones."""
    workbench = Workbench(rules or example())
    workbench.add_switch("d")
    workbench.rename("d", "e")
    workbench.add_clause(workbench.present_rules.clauses[0])
    workbench.remove_clause(0)
    workbench.undo()
    workbench.undo()
    return workbench


# Every error of every operation, for the workbench that is prepared from the example.
ERRORS = [
    (InvalidClause, {}, "add_clause", (("needs", "a", "d"),)), (InvalidClause, {}, "add_clause", (["needs", "a", "b"],)),
    (UnknownClause, {}, "remove_clause", (2,)), (UnknownClause, {}, "remove_clause", (-1,)),
    (InvalidName, {}, "add_switch", ("e",)), (InvalidName, {}, "add_switch", ("E",)),
    (UnknownSwitch, {"name": "d"}, "remove_switch", ("d",)), (UnknownSwitch, {"name": None}, "remove_switch", (None,)),
    (UnknownSwitch, {"name": "d"}, "rename", ("d", "x")), (InvalidName, {}, "rename", ("e", "e")),
    (InvalidName, {}, "rename", ("e", "")),
]


class ExamplesTest(Case):
    def test_workbench(self):
        workbench = Workbench(example())
        workbench.add_clause(("either", "a", "c"))
        self.same([workbench.present_rules.clauses[2], workbench.history],
                  [("either", "a", "c"), [("add_clause", ("either", "a", "c"))]])

    def test_versions(self):
        workbench = Workbench(example())
        workbench.remove_clause(0)
        self.same([len(rules.clauses) for rules in workbench.versions()], [2, 1])

    def test_clauses(self):
        self.same(Workbench(example()).remove_clause(1), ("excludes", "b", "c"))
        self.fails(InvalidClause, {}, Workbench(example()).add_clause, ("needs", "a", "d"))

    def test_switches(self):
        workbench = Workbench(example())
        self.same([workbench.add_switch("d"), workbench.remove_switch("b"), workbench.present_rules.names],
                  [4, (("needs", "a", "b"), ("excludes", "b", "c")), ("a", "c", "d")])

    def test_rename(self):
        workbench = Workbench(example())
        workbench.rename("a", "x")
        self.same(workbench.present_rules.clauses[0], ("needs", "x", "b"))
        self.fails(InvalidName, {}, Workbench(example()).rename, "a", "b")

    def test_undo_and_redo(self):
        workbench = Workbench(example())
        workbench.add_switch("d")
        self.same([workbench.undo(), workbench.present_rules.names, workbench.undo(), workbench.redo()],
                  [True, ("a", "b", "c"), False, True])


class PropertiesTest(Case):
    def test_a_new_workbench(self):
        workbench = Workbench(example())
        self.assertIs(type(workbench.present_rules), Rules)
        self.same(shown(workbench), [parts(example()), [], [parts(example())]])

    def test_history_has_each_operation_with_its_arguments(self):
        workbench = Workbench(example())
        workbench.add_switch("d")
        workbench.rename("a", "x")
        workbench.add_clause(("either", "x", "d"))
        workbench.remove_clause(1)
        workbench.remove_switch("c")
        self.same(workbench.history, [("add_switch", "d"), ("rename", "a", "x"), ("add_clause", ("either", "x", "d")),
                                      ("remove_clause", 1), ("remove_switch", "c")])
        self.same(versions_of(workbench), [
            (("a", "b", "c"), (NEEDS, EXCLUDES)),
            (("a", "b", "c", "d"), (NEEDS, EXCLUDES)),
            (("x", "b", "c", "d"), (("needs", "x", "b"), EXCLUDES)),
            (("x", "b", "c", "d"), (("needs", "x", "b"), EXCLUDES, ("either", "x", "d"))),
            (("x", "b", "c", "d"), (("needs", "x", "b"), ("either", "x", "d"))),
            (("x", "b", "d"), (("needs", "x", "b"), ("either", "x", "d")))])
        self.same(parts(workbench.present_rules), versions_of(workbench)[-1])

    def test_undone_operations_are_not_in_effect(self):
        workbench = prepared()
        self.same(workbench.history, [("add_switch", "d"), ("rename", "d", "e")])
        self.same(versions_of(workbench), [(("a", "b", "c"), (NEEDS, EXCLUDES)),
                                           (("a", "b", "c", "d"), (NEEDS, EXCLUDES)),
                                           (("a", "b", "c", "e"), (NEEDS, EXCLUDES))])

    def test_history_is_new_for_each_reading(self):
        workbench = prepared()
        expected = everything(workbench)
        self.assertIsNot(workbench.history, workbench.history)
        workbench.history.append(("add_switch", "x"))
        workbench.history.clear()
        self.same(everything(workbench), expected)

    def test_properties_cannot_be_assigned(self):
        workbench = prepared()
        expected = everything(workbench)
        for name, value in (("present_rules", example()), ("history", [])):
            with self.assertRaises(AttributeError):
                setattr(workbench, name, value)
        self.same(everything(workbench), expected)

    def test_the_rules_of_the_caller_stay_as_they_are(self):
        rules = example()
        workbench = Workbench(rules)
        workbench.remove_switch("b")
        workbench.rename("a", "x")
        self.same(parts(rules), (("a", "b", "c"), (NEEDS, EXCLUDES)))

    def test_workbenches_do_not_disturb_each_other(self):
        rules = example()
        one, other = Workbench(rules), Workbench(rules)
        one.add_switch("d")
        other.remove_clause(0)
        one.undo()
        self.same([shown(one), shown(other)], [
            [parts(rules), [], [parts(rules)]],
            [(("a", "b", "c"), (EXCLUDES,)), [("remove_clause", 0)], [parts(rules), (("a", "b", "c"), (EXCLUDES,))]]])
        self.same([other.redo(), one.redo()], [False, True])

    def test_versions_is_a_generator(self):
        workbench = prepared()
        self.assertTrue(inspect.isgenerator(workbench.versions()))
        self.same([type(rules) for rules in workbench.versions()], [Rules] * 3)

    def test_versions_while_the_workbench_changes(self):
        workbench = prepared()
        expected = versions_of(workbench)
        values = workbench.versions()
        seen = [parts(next(values))]
        workbench.undo()
        workbench.add_switch("x")
        workbench.undo()
        workbench.undo()
        self.same(seen + [parts(rules) for rules in values], expected)


class AddClauseTest(Case):
    def test_the_number_of_the_clause(self):
        workbench = Workbench(Rules.free("a", "b", "c"))
        self.same([workbench.add_clause(NEEDS), workbench.add_clause(NEEDS), workbench.add_clause(EITHER)], [0, 1, 2])
        self.same(parts(workbench.present_rules), (("a", "b", "c"), (NEEDS, NEEDS, EITHER)))

    def test_invalid_clauses(self):
        for value in VALUES_OF_ALL_KINDS:
            if value != NEEDS:
                self.fails(InvalidClause, {}, Workbench(example()).add_clause, value)
                self.fails(InvalidClause, {}, Workbench(Rules(("a", "b"), FORTY)).add_clause, value)

    def test_the_fortieth_and_the_forty_first_clause(self):
        workbench = Workbench(Rules(("a", "b"), FORTY[:39]))
        self.same(workbench.add_clause(("either", "b", "b")), 39)
        self.fails(InvalidRules, {"part": "clauses", "index": 40}, workbench.add_clause, NEEDS)
        self.same(workbench.present_rules.clauses, FORTY[:39] + (("either", "b", "b"),))


class RemoveClauseTest(Case):
    def test_each_clause(self):
        clauses = (NEEDS, EXCLUDES, EITHER, NEEDS)
        for index in range(4):
            workbench = Workbench(Rules(("a", "b", "c"), clauses))
            self.same(workbench.remove_clause(index), clauses[index])
            self.same(parts(workbench.present_rules), (("a", "b", "c"), clauses[:index] + clauses[index + 1:]))

    def test_wrong_numbers(self):
        for value in VALUES_OF_ALL_KINDS:
            if isinstance(value, bool) or value not in (0, 1):
                self.fails(UnknownClause, {}, Workbench(example()).remove_clause, value)
            self.fails(UnknownClause, {}, Workbench(Rules.free("a")).remove_clause, value)
        for value in (-2, -1, 2, 3, "0", (0,)):
            self.fails(UnknownClause, {}, Workbench(example()).remove_clause, value)


class AddSwitchTest(Case):
    def test_at_the_end(self):
        workbench = Workbench(Rules.free("b"))
        self.same([workbench.add_switch("c"), workbench.add_switch("a"), workbench.add_switch("eightabc")], [2, 3, 4])
        self.same(parts(workbench.present_rules), (("b", "c", "a", "eightabc"), ()))
        self.same(workbench.add_clause(("needs", "a", "b")), 0)

    def test_names_that_are_words(self):
        workbench = Workbench(example())
        for many, name in enumerate(("needs", "excludes", "either", "switches", "on")):
            self.same(workbench.add_switch(name), many + 4)
        self.same(workbench.present_rules.clauses, (NEEDS, EXCLUDES))

    def test_invalid_names(self):
        for value in NO_NAMES + ("a", "b", "c"):
            self.fails(InvalidName, {}, Workbench(example()).add_switch, value)

    def test_the_tenth_and_the_eleventh_switch(self):
        workbench = Workbench(Rules.free(*TEN_NAMES[:9]))
        self.same(workbench.add_switch("lastname"), 10)
        self.fails(TooManySwitches, {}, workbench.add_switch, "k")
        self.same(workbench.present_rules.names, TEN_NAMES)

    def test_an_invalid_name_comes_before_too_many_switches(self):
        for value in NO_NAMES + TEN_NAMES:
            self.fails(InvalidName, {}, Workbench(Rules.free(*TEN_NAMES)).add_switch, value)

    def test_a_removed_or_changed_name_is_not_in_use(self):
        workbench = Workbench(example())
        workbench.remove_switch("a")
        workbench.rename("b", "d")
        self.same([workbench.add_switch("a"), workbench.add_switch("b")], [3, 4])
        self.same(workbench.present_rules.names, ("d", "c", "a", "b"))


class RemoveSwitchTest(Case):
    def test_each_switch(self):
        clauses = (NEEDS, ("either", "c", "c"), EXCLUDES, ("needs", "c", "a"), NEEDS)
        expected = {
            "a": ((NEEDS, ("needs", "c", "a"), NEEDS), (("either", "c", "c"), EXCLUDES)),
            "b": ((NEEDS, EXCLUDES, NEEDS), (("either", "c", "c"), ("needs", "c", "a"))),
            "c": ((("either", "c", "c"), EXCLUDES, ("needs", "c", "a")), (NEEDS, NEEDS)),
        }
        for name, (removed, left) in expected.items():
            workbench = Workbench(Rules(("a", "b", "c"), clauses))
            self.same(workbench.remove_switch(name), removed)
            self.same(parts(workbench.present_rules), (tuple(each for each in "abc" if each != name), left))

    def test_a_switch_without_clauses(self):
        workbench = Workbench(Rules(("a", "b", "d", "c"), (NEEDS, EXCLUDES)))
        self.same(workbench.remove_switch("d"), ())
        self.same(parts(workbench.present_rules), (("a", "b", "c"), (NEEDS, EXCLUDES)))

    def test_a_switch_with_the_name_of_a_word(self):
        for word in ("needs", "excludes", "either"):
            clauses = ((word, "a", "b"), ("needs", word, "a"), (word, word, word), ("either", "b", word))
            workbench = Workbench(Rules((word, "a", "b"), clauses))
            self.same(workbench.remove_switch(word), clauses[1:])
            self.same(parts(workbench.present_rules), (("a", "b"), clauses[:1]))

    def test_unknown_switches(self):
        for value in NO_NAMES + ("d", "ab", "needs"):
            self.unknown(value, Workbench(example()).remove_switch, value)

    def test_the_last_switch(self):
        workbench = Workbench(Rules(("a", "b"), (NEEDS, ("either", "b", "b"))))
        self.same(workbench.remove_switch("a"), (NEEDS,))
        self.fails(LastSwitch, {}, workbench.remove_switch, "b")
        self.same(parts(workbench.present_rules), (("b",), (("either", "b", "b"),)))

    def test_an_unknown_switch_comes_before_the_last_one(self):
        for value in NO_NAMES + ("b",):
            self.unknown(value, Workbench(Rules.free("a")).remove_switch, value)


class RenameTest(Case):
    def test_the_position_and_all_clauses(self):
        clauses = (NEEDS, EXCLUDES, ("either", "b", "b"), EITHER, ("needs", "b", "a"))
        workbench = Workbench(Rules(("a", "b", "c"), clauses))
        self.same(workbench.rename("b", "zebra"), None)
        self.same(parts(workbench.present_rules), (("a", "zebra", "c"), (
            ("needs", "a", "zebra"), ("excludes", "zebra", "c"), ("either", "zebra", "zebra"), EITHER,
            ("needs", "zebra", "a"))))

    def test_the_words_of_clauses_stay(self):
        for word in ("needs", "excludes", "either"):
            workbench = Workbench(Rules((word, "b"), ((word, word, "b"), ("either", "b", word))))
            workbench.rename(word, "x")
            self.same(parts(workbench.present_rules), (("x", "b"), ((word, "x", "b"), ("either", "b", "x"))))
            workbench.rename("b", word)
            self.same(parts(workbench.present_rules), (("x", word), ((word, "x", word), ("either", word, "x"))))

    def test_each_of_ten_switches(self):
        for place, name in enumerate(TEN_NAMES):
            workbench = Workbench(Rules.free(*TEN_NAMES))
            self.same(workbench.rename(name, "k"), None)
            self.same(workbench.present_rules.names, TEN_NAMES[:place] + ("k",) + TEN_NAMES[place + 1:])

    def test_unknown_switches(self):
        for value in NO_NAMES + ("d", "ab", "needs"):
            self.unknown(value, Workbench(example()).rename, value, "x")

    def test_an_unknown_switch_comes_before_an_invalid_name(self):
        for value in NO_NAMES + ("a", "d"):
            self.unknown("d", Workbench(example()).rename, "d", value)

    def test_invalid_names(self):
        for value in NO_NAMES + ("b", "c"):
            self.fails(InvalidName, {}, Workbench(example()).rename, "a", value)

    def test_the_present_name_is_in_use(self):
        for name in ("a", "b", "c"):
            self.fails(InvalidName, {}, Workbench(example()).rename, name, name)

    def test_there_and_back(self):
        workbench = Workbench(example())
        workbench.rename("a", "x")
        workbench.rename("b", "a")
        workbench.rename("x", "b")
        self.same(parts(workbench.present_rules), (("b", "a", "c"), (("needs", "b", "a"), ("excludes", "a", "c"))))


class ErrorsTest(Case):
    def test_an_operation_that_raises_an_error_changes_nothing(self):
        workbench = prepared()
        expected = everything(workbench)
        for error, attributes, word, arguments in ERRORS:
            with self.subTest(f"{word} {arguments}"):
                self.fails(error, attributes, getattr(workbench, word), *arguments)
                self.same(everything(workbench), expected)

    def test_errors_at_the_limits_change_nothing(self):
        for rules, error, attributes, word, arguments in (
                (Rules(("a", "b"), FORTY), InvalidRules, {"part": "clauses", "index": 40}, "add_clause", (NEEDS,)),
                (Rules.free(*TEN_NAMES), TooManySwitches, {}, "add_switch", ("k",)),
                (Rules.free("b"), LastSwitch, {}, "remove_switch", ("b",))):
            workbench = Workbench(rules)
            workbench.rename("b", "x")
            workbench.rename("x", "b")
            workbench.rename("b", "z")
            workbench.undo()
            expected = everything(workbench)
            self.same(len(expected), 2)
            self.fails(error, attributes, getattr(workbench, word), *arguments)
            self.same(everything(workbench), expected)


class UndoRedoTest(Case):
    def test_nothing_to_undo_or_redo(self):
        workbench = Workbench(example())
        self.same([workbench.undo(), workbench.redo(), shown(workbench)],
                  [False, False, [parts(example()), [], [parts(example())]]])

    def test_each_operation(self):
        for word, arguments in (("add_clause", (EITHER,)), ("remove_clause", (0,)), ("add_switch", ("d",)),
                                ("remove_switch", ("b",)), ("rename", ("b", "x"))):
            workbench = Workbench(example())
            before = shown(workbench)
            getattr(workbench, word)(*arguments)
            after = shown(workbench)
            for _ in range(2):
                self.same([workbench.undo(), shown(workbench), workbench.undo()], [True, before, False])
                self.same([workbench.redo(), shown(workbench), workbench.redo()], [True, after, False])

    def test_one_operation_after_another(self):
        workbench = Workbench(example())
        seen = [shown(workbench)]
        workbench.remove_switch("c")
        seen.append(shown(workbench))
        workbench.rename("a", "c")
        seen.append(shown(workbench))
        workbench.add_clause(("either", "c", "b"))
        seen.append(shown(workbench))
        for expected in seen[-2::-1]:
            self.same([workbench.undo(), shown(workbench)], [True, expected])
        self.same(workbench.undo(), False)
        for expected in seen[1:]:
            self.same([workbench.redo(), shown(workbench)], [True, expected])
        self.same(workbench.redo(), False)

    def test_a_new_operation_leaves_nothing_for_redo(self):
        for word, arguments in (("add_clause", (EITHER,)), ("remove_clause", (0,)), ("add_switch", ("d",)),
                                ("remove_switch", ("e",)), ("rename", ("e", "d"))):
            workbench = prepared()
            getattr(workbench, word)(*arguments)
            self.same(len(workbench.history), 3)
            expected = shown(workbench)
            self.same([workbench.redo(), shown(workbench)], [False, expected])
            self.same([workbench.undo(), workbench.redo(), workbench.redo(), shown(workbench)],
                      [True, True, False, expected])

    def test_the_same_operation_leaves_nothing_for_redo(self):
        workbench = prepared()
        workbench.add_clause(NEEDS)
        self.same([workbench.redo(), len(workbench.present_rules.clauses)], [False, 3])


class Model:
    """A workbench as the document tells it: lists of all versions and operations, and of those that are undone."""

    def __init__(self, rules):
        self.versions = [parts(rules)]
        self.operations = []
        self.undone = []

    def execute(self, word, *arguments):
        names, clauses = self.versions[-1]
        if word == "add_clause":
            clauses, result = clauses + arguments, len(clauses)
        elif word == "remove_clause":
            at = arguments[0]
            clauses, result = clauses[:at] + clauses[at + 1:], clauses[at]
        elif word == "add_switch":
            names, result = names + arguments, len(names) + 1
        elif word == "remove_switch":
            gone = arguments[0]
            result = tuple(clause for clause in clauses if gone in (clause[1], clause[2]))
            clauses = tuple(clause for clause in clauses if gone not in (clause[1], clause[2]))
            names = tuple(name for name in names if name != gone)
        else:
            old, new = arguments
            names, result = tuple(new if name == old else name for name in names), None
            clauses = tuple((kind, new if first == old else first, new if second == old else second)
                            for kind, first, second in clauses)
        self.versions.append((names, clauses))
        self.operations.append((word,) + arguments)
        self.undone = []
        return result

    def undo(self):
        if self.operations:
            self.undone.append((self.operations.pop(), self.versions.pop()))
            return True
        return False

    def redo(self):
        if self.undone:
            operation, version = self.undone.pop()
            self.operations.append(operation)
            self.versions.append(version)
            return True
        return False


class LongRunsTest(Case):
    NAMES = TEN_NAMES + ("needs", "excludes", "either", "on")

    def chosen(self, mixer, model):
        """The next operation; its arguments may be wrong."""
        names, clauses = model.versions[-1]
        word = mixer.one_of(("add_clause", "add_clause", "remove_clause", "add_switch", "remove_switch", "rename"))
        if word == "add_clause":
            clause = (mixer.one_of(("needs", "excludes", "either")), mixer.one_of(names), mixer.one_of(names))
            return (word, clause if mixer.below(9) else clause[:2])
        if word == "remove_clause":
            return (word, mixer.below(len(clauses) + 1))
        if word == "rename":
            return (word, mixer.one_of(names), mixer.one_of(self.NAMES))
        return (word, mixer.one_of(names if word == "remove_switch" else self.NAMES))

    def test_many_operations(self):
        for seed in range(12):
            mixer = Mixer()
            mixer.number = seed
            rules = Rules(("needs", "b", "one"), (("needs", "b", "needs"), ("either", "one", "b")))
            workbench, model = Workbench(rules), Model(rules)
            kinds = set()
            for _ in range(150):
                word, *arguments = mixer.one_of((("undo",), ("redo",)) + (self.chosen(mixer, model),) * 3)
                if word in ("undo", "redo"):
                    self.same(getattr(workbench, word)(), getattr(model, word)())
                else:
                    try:
                        result = getattr(workbench, word)(*arguments)
                    except StepError as error:
                        kinds.add(type(error))
                    else:
                        self.same(result, model.execute(word, *arguments))
                self.same(shown(workbench), [model.versions[-1], model.operations, model.versions])
            self.assertLessEqual(2, len(kinds))


if __name__ == "__main__":
    unittest.main()
