"""Point 12: rollouts, their changes, and changes undone and made again."""

import unittest

from flagsteps.errors import IllegalState, IllegalStep, InvalidState, NoGoal, NoWay, StepError
from flagsteps.rollout import Rollout
from flagsteps.rules import Rules
from flagsteps.ways import is_circle
from tests.helpers import (TEN_NAMES, VALUES_OF_ALL_KINDS, Case, Mixer, cases, equal, expected_differing, expected_ways,
                           flipped, holds)


def example():
    return Rules(("a", "b", "c"), (("needs", "a", "b"), ("excludes", "b", "c")))


def shown(rollout):
    """All that a rollout tells."""
    return [rollout.state, rollout.target, rollout.history, rollout.remaining]


def redone(rollout):
    """The changes that redo makes; they are undone again."""
    before = len(rollout.history)
    while rollout.redo():
        pass
    changes = rollout.history[before:]
    for _ in changes:
        rollout.undo()
    return changes


class ExamplesTest(Case):
    def test_properties(self):
        rollout = Rollout(example(), ("c",), goal=("a", "b"))
        self.same([rollout.state, rollout.target, rollout.remaining, rollout.history],
                  [("c",), ("a", "b"), ["a", "b", "c"], []])

    def test_illegal_state(self):
        self.fails(IllegalState, {"index": 0}, Rollout, example(), ("a",))

    def test_change(self):
        rollout = Rollout(example(), ("c",))
        self.same([rollout.change("c", "b"), rollout.history], [("b",), ["c", "b"]])

    def test_illegal_change(self):
        rollout = Rollout(example(), ("c",))
        self.fails(IllegalStep, {"index": 1, "clause": 0}, rollout.change, "c", "a")

    def test_attempt(self):
        rollout = Rollout(example(), ("c",))
        self.same([rollout.attempt("c", "a"), rollout.state, rollout.attempt("c"), rollout.state],
                  [False, ("c",), True, ()])

    def test_advance(self):
        rollout = Rollout(example(), ("c",), goal=("a", "b"))
        self.same([rollout.advance(), rollout.advance(5), rollout.remaining], [["c"], ["b", "a"], []])
        self.fails(NoGoal, {}, Rollout(example(), ("c",)).advance)

    def test_undo_and_redo(self):
        rollout = Rollout(example(), ("c",))
        rollout.change("c", "b")
        self.same([rollout.undo(), rollout.state, rollout.redo(), rollout.redo(), rollout.state],
                  [True, (), True, False, ("b",)])

    def test_resumed(self):
        self.same(Rollout.resumed(example(), ("c",), ["c", "b"]).state, ("b",))


class PropertiesTest(Case):
    def test_without_a_goal(self):
        for rollout in (Rollout(example(), ("b",)), Rollout(example(), ("b",), goal=None)):
            self.same(shown(rollout), [("b",), None, [], []])
            rollout.change("a")
            self.same(shown(rollout), [("a", "b"), None, ["a"], []])

    def test_the_empty_state_is_a_goal(self):
        self.same(shown(Rollout(example(), ("a", "b"), goal=())), [("a", "b"), (), [], ["a", "b"]])

    def test_the_state_is_the_goal(self):
        self.same(shown(Rollout(example(), ("c",), goal=("c",))), [("c",), ("c",), [], []])

    def test_remaining_follows_the_state(self):
        rollout = Rollout(Rules.free("z", "a", "m"), ("a",), goal=("z", "m"))
        self.same(rollout.remaining, ["z", "a", "m"])
        rollout.change("m")
        self.same(rollout.remaining, ["z", "a"])
        rollout.change("m", "z", "m")
        self.same(rollout.remaining, ["a"])
        rollout.change("a", "a", "z")
        self.same(rollout.remaining, ["z", "a"])
        self.same(rollout.target, ("z", "m"))

    def test_ten_names(self):
        rollout = Rollout(Rules.free(*TEN_NAMES), (), goal=TEN_NAMES)
        self.same(rollout.change(*TEN_NAMES[::-1]), TEN_NAMES)
        self.same(shown(rollout), [TEN_NAMES, TEN_NAMES, list(TEN_NAMES[::-1]), []])

    def test_lists_are_new_for_each_reading(self):
        rollout = Rollout(example(), ("c",), goal=("a", "b"))
        rollout.change("c")
        rollout.history.append("a")
        rollout.history.clear()
        rollout.remaining.append("c")
        rollout.remaining.clear()
        self.same(shown(rollout), [(), ("a", "b"), ["c"], ["a", "b"]])
        self.assertIsNot(rollout.history, rollout.history)
        self.assertIsNot(rollout.remaining, rollout.remaining)

    def test_properties_cannot_be_assigned(self):
        rollout = Rollout(example(), ("c",), goal=("b",))
        for name in ("state", "target", "history", "remaining"):
            with self.assertRaises(AttributeError):
                setattr(rollout, name, ())
        self.same(shown(rollout), [("c",), ("b",), [], ["b", "c"]])

    def test_rollouts_do_not_disturb_each_other(self):
        rules = example()
        one, other = Rollout(rules, (), goal=("b",)), Rollout(rules, (), goal=("b",))
        one.change("b")
        self.same([shown(one), shown(other)], [[("b",), ("b",), ["b"], []], [(), ("b",), [], ["b"]]])
        self.same([one.undo(), other.undo(), one.state], [True, False, ()])

    def test_wrong_goals(self):
        for value in VALUES_OF_ALL_KINDS:
            if not isinstance(value, tuple) and value is not None:
                with self.assertRaises(InvalidState) as caught:
                    Rollout(example(), (), goal=value)
                self.same(caught.exception.index, 0)


class ChangeTest(Case):
    def test_no_switches(self):
        rollout = Rollout(example(), ("b",))
        rollout.change("a", "a")
        rollout.undo()
        self.same([rollout.change(), rollout.history, redone(rollout)], [("a", "b"), ["a"], ["a"]])

    def test_one_after_another(self):
        rollout = Rollout(example(), ())
        self.same([rollout.change("b"), rollout.change("a", "a", "a"), rollout.history],
                  [("b",), ("a", "b"), ["b", "a", "a", "a"]])

    def test_errors_in_the_middle_change_nothing(self):
        rollout = Rollout(example(), ("c",), goal=("b",))
        rollout.change("c", "b", "a")
        rollout.undo()
        before = shown(rollout)
        for names, index, clause in ((("a", "c", "c"), 1, 1), (("b", "a", "x"), 1, 0), (("a", "a", "c"), 2, 1)):
            self.fails(IllegalStep, {"index": index, "clause": clause}, rollout.change, *names)
            self.same([shown(rollout), redone(rollout)], [before, ["a"]])
        self.unknown("x", rollout.change, "b", "c", "x")
        self.same([shown(rollout), redone(rollout)], [before, ["a"]])

    def test_the_first_fault_is_reported(self):
        rollout = Rollout(example(), ())
        self.fails(IllegalStep, {"index": 0, "clause": 0}, rollout.change, "a", "x")
        self.unknown("x", rollout.change, "x", "a")
        self.fails(IllegalStep, {"index": 3, "clause": 1}, rollout.change, "b", "b", "b", "c", "a")
        self.same(shown(rollout), [(), None, [], []])

    def test_the_first_broken_clause(self):
        clauses = (("needs", "a", "a"), ("excludes", "a", "b"), ("excludes", "b", "b"), ("needs", "a", "b"))
        rollout = Rollout(Rules(("a", "b"), clauses), ())
        self.fails(IllegalStep, {"index": 0, "clause": 3}, rollout.change, "a")
        self.fails(IllegalStep, {"index": 0, "clause": 2}, rollout.change, "b")


class AdvanceTest(Case):
    def test_the_changes_of_the_first_way(self):
        for rules, start, goal in cases()[::2]:
            ways = expected_ways(rules, start, goal)
            if ways:
                for count in (0, 1, 2, len(ways[0]), len(ways[0]) + 1):
                    rollout = Rollout(rules, start, goal=goal)
                    changes = ways[0][:count]
                    self.same(rollout.advance(count), changes)
                    state = flipped(rules, start, changes)
                    self.same(shown(rollout), [state, goal, changes, expected_differing(rules, state, goal)])

    def test_one_after_another(self):
        rollout = Rollout(example(), ("c",), goal=("a", "b"))
        self.same([rollout.advance() for _ in range(5)], [["c"], ["b"], ["a"], [], []])
        self.same([rollout.state, rollout.history], [("a", "b"), ["c", "b", "a"]])

    def test_count_by_keyword(self):
        self.same(Rollout(example(), ("c",), goal=("a", "b")).advance(count=2), ["c", "b"])

    def test_zero_changes_nothing(self):
        rollout = Rollout(example(), ("c",), goal=("a", "b"))
        rollout.change("c", "b")
        rollout.undo()
        before = shown(rollout)
        self.same([rollout.advance(0), shown(rollout), redone(rollout)], [[], before, ["b"]])

    def test_a_number_somewhat_below_zero_changes_nothing(self):
        rollout = Rollout(example(), ("c",), goal=("a", "b"))
        self.same([rollout.advance(-1), rollout.advance(-2), rollout.history], [[], [], []])

    def test_at_the_goal_nothing_changes(self):
        rollout = Rollout(example(), ("b",), goal=("b",))
        rollout.change("a")
        rollout.undo()
        self.same([rollout.advance(), rollout.advance(3), rollout.history, redone(rollout)], [[], [], [], ["a"]])

    def test_a_new_change_leaves_nothing_for_redo(self):
        rollout = Rollout(example(), ("c",), goal=("a", "b"))
        rollout.change("c", "b", "a")
        rollout.undo()
        rollout.undo()
        self.same([rollout.advance(), rollout.redo(), rollout.history], [["b"], False, ["c", "b"]])

    def test_from_wherever_the_state_is(self):
        rollout = Rollout(example(), ("c",), goal=("a", "b"))
        rollout.advance(2)
        rollout.change("b", "c")
        self.same([rollout.advance(2), rollout.state], [["c", "b"], ("b",)])
        rollout.undo()
        self.same([rollout.advance(9), rollout.history], [["b", "a"], ["c", "b", "b", "c", "c", "b", "a"]])

    def test_no_goal(self):
        rollout = Rollout(Rules(("a", "b"), equal("a", "b")), ())
        for count in (0, 1, 5):
            self.fails(NoGoal, {}, rollout.advance, count)

    def test_no_way(self):
        rules = Rules(("a", "b", "c"), equal("a", "b"))
        rollout = Rollout(rules, (), goal=("a", "b", "c"))
        rollout.change("c", "c", "c")
        rollout.undo()
        before = shown(rollout)
        for count in (0, 1, 5):
            with self.assertRaises(NoWay) as caught:
                rollout.advance(count)
            self.same(is_circle(rules, (), ("a", "b", "c"), caught.exception.circle), True)
            self.same([shown(rollout), redone(rollout)], [before, ["c"]])

    def test_changed_results_change_nothing(self):
        rollout = Rollout(example(), ("c",), goal=("a", "b"))
        rollout.advance(2).clear()
        self.same([rollout.history, rollout.advance(2)], [["c", "b"], ["a"]])


class UndoRedoTest(Case):
    def test_nothing_to_undo_or_redo(self):
        rollout = Rollout(example(), ("b",), goal=("c",))
        self.same([rollout.undo(), rollout.redo(), shown(rollout)], [False, False, [("b",), ("c",), [], ["b", "c"]]])

    def test_single_changes_of_one_call(self):
        rollout = Rollout(example(), ("c",), goal=("b",))
        rollout.change("c", "b", "a")
        seen = []
        while rollout.undo():
            seen.append((rollout.state, rollout.history, rollout.remaining))
        self.same(seen, [(("b",), ["c", "b"], []), ((), ["c"], ["b"]), (("c",), [], ["b", "c"])])
        seen = []
        while rollout.redo():
            seen.append((rollout.state, rollout.history, rollout.remaining))
        self.same(seen, [((), ["c"], ["b"]), (("b",), ["c", "b"], []), (("a", "b"), ["c", "b", "a"], ["a"])])
        self.same([rollout.redo(), rollout.undo(), rollout.history], [False, True, ["c", "b"]])

    def test_a_new_change_leaves_nothing_for_redo(self):
        rollout = Rollout(example(), ())
        rollout.change("b", "a")
        rollout.undo()
        rollout.change("b")
        self.same([rollout.redo(), rollout.state, rollout.history], [False, (), ["b", "b"]])
        self.same([rollout.undo(), rollout.redo(), rollout.redo(), rollout.history], [True, True, False, ["b", "b"]])

    def test_the_same_change_leaves_nothing_for_redo(self):
        rollout = Rollout(example(), ())
        rollout.change("b", "a")
        rollout.undo()
        rollout.undo()
        rollout.change("b")
        self.same([rollout.redo(), rollout.state], [False, ("b",)])

    def test_redone_changes_can_be_undone(self):
        rollout = Rollout(example(), ())
        rollout.change("b", "a")
        self.same([rollout.undo(), rollout.redo(), rollout.undo(), rollout.undo(), rollout.undo()],
                  [True, True, True, True, False])
        self.same([rollout.state, redone(rollout)], [(), ["b", "a"]])

    def test_advanced_and_resumed_changes_can_be_undone(self):
        rollout = Rollout.resumed(example(), ("c",), ["c"], goal=("a", "b"))
        rollout.advance(1)
        self.same([rollout.undo(), rollout.undo(), rollout.undo(), rollout.state], [True, True, False, ("c",)])
        self.same(redone(rollout), ["c", "b"])


class ResumedTest(Case):
    def test_no_changes(self):
        rollout = Rollout.resumed(example(), ("c",), [])
        self.same([shown(rollout), rollout.undo(), rollout.redo()], [[("c",), None, [], []], False, False])

    def test_history_and_goal(self):
        rollout = Rollout.resumed(example(), ("c",), ["c", "b", "b", "b"], goal=("a", "b"))
        self.same(shown(rollout), [("b",), ("a", "b"), ["c", "b", "b", "b"], ["a"]])
        self.assertIs(type(rollout), Rollout)

    def test_the_goal_may_be_none(self):
        self.same(shown(Rollout.resumed(example(), (), ["b"], goal=None)), [("b",), None, ["b"], []])

    def test_the_list_is_neither_modified_nor_kept(self):
        changes = ["c", "b"]
        rollout = Rollout.resumed(example(), ("c",), changes)
        changes.append("a")
        rollout.change("a")
        self.same([changes, rollout.history], [["c", "b", "a"], ["c", "b", "a"]])
        changes.clear()
        self.same(rollout.history, ["c", "b", "a"])

    def test_errors_in_the_middle(self):
        self.fails(IllegalStep, {"index": 2, "clause": 0}, Rollout.resumed, example(), ("c",), ["c", "c", "a", "x"])
        self.fails(IllegalStep, {"index": 1, "clause": 1}, Rollout.resumed, example(), (), ["b", "c", "a"])
        self.unknown("x", Rollout.resumed, example(), ("c",), ["c", "x", "a"])

    def test_the_state_and_the_goal_come_before_the_changes(self):
        def resume(state, goal):
            return Rollout.resumed(example(), state, ["x", "a"], goal=goal)
        self.fails(IllegalState, {"index": 0}, resume, ("a",), ("c", "b"))
        self.fails(InvalidState, {"index": 1}, resume, ("c", "b"), ("a",))
        self.fails(InvalidState, {"index": 1}, resume, (), ("c", "b"))
        self.fails(IllegalState, {"index": 1}, resume, (), ("b", "c"))
        self.unknown("x", resume, (), ("b",))


class Model:
    """A rollout as a list of all states so far, with a place in it."""

    def __init__(self, rules, state):
        self.rules = rules
        self.names = []
        self.place = 0
        self.start = state

    @property
    def state(self):
        return flipped(self.rules, self.start, self.names[:self.place])

    def change(self, names):
        """Whether the changes are legal; they are made only if they are."""
        for many in range(1, len(names) + 1):
            state = flipped(self.rules, self.state, names[:many])
            if not all(holds(clause, state) for clause in self.rules.clauses):
                return False
        if names:
            self.names = self.names[:self.place] + names
            self.place = len(self.names)
        return True

    def move(self, by):
        """Whether a change can be undone (-1) or made again (1)."""
        if 0 <= self.place + by <= len(self.names):
            self.place += by
            return True
        return False


class LongRunsTest(Case):
    def test_many_operations(self):
        mixer = Mixer()
        for rules, start, goal in cases()[-60:]:
            rollout, model = Rollout(rules, start, goal=goal), Model(rules, start)
            for _ in range(60):
                self.step(mixer, rollout, model)
                self.same([rollout.state, rollout.history], [model.state, model.names[:model.place]])
                self.same([rollout.target, rollout.remaining], [goal, expected_differing(rules, model.state, goal)])
                self.same(rules.is_legal(rollout.state), True)

    def step(self, mixer, rollout, model):
        kind = mixer.below(5)
        names = [mixer.one_of(model.rules.names) for _ in range(mixer.below(4))]
        if kind == 0:
            self.same(rollout.undo(), model.move(-1))
        elif kind == 1:
            self.same(rollout.redo(), model.move(1))
        elif kind == 2:
            self.same(rollout.attempt(*names), model.change(names))
        elif kind == 3:
            if model.change(names):
                self.same(rollout.change(*names), model.state)
            else:
                with self.assertRaises(StepError):
                    rollout.change(*names)
        else:
            ways = expected_ways(model.rules, model.state, rollout.target)
            count = mixer.below(3)
            if ways:
                self.same(rollout.advance(count), ways[0][:count])
                model.change(ways[0][:count])
            else:
                with self.assertRaises(NoWay):
                    rollout.advance(count)


if __name__ == "__main__":
    unittest.main()
