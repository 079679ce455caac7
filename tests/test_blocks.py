"""Point 13: rollouts in with statements, and attempts."""

import unittest

from flagsteps.errors import AlreadyOpen, IllegalStep, NoGoal, StepError
from flagsteps.rollout import Rollout
from flagsteps.rules import Rules
from tests.helpers import Case, equal


class Stop(Exception):
    """An error that is not the package's."""


def example():
    return Rules(("a", "b", "c"), (("needs", "a", "b"), ("excludes", "b", "c")))


def prepared():
    """A rollout with changes in effect and two undone ones."""
    rollout = Rollout(example(), ("c",), goal=("a", "b"))
    rollout.change("c", "b", "a")
    rollout.undo()
    rollout.undo()
    return rollout


def everything(rollout):
    """All that can be seen of a rollout, also what redo and undo make of it."""
    seen = [rollout.state, rollout.target, rollout.history, rollout.remaining]
    forward = 0
    while rollout.redo():
        forward += 1
        seen.append((rollout.state, rollout.history))
    for _ in range(forward):
        rollout.undo()
    return seen


class BlockTest(Case):
    def test_the_value_is_the_rollout(self):
        rollout = Rollout(example(), ())
        with rollout as opened:
            self.assertIs(opened, rollout)

    def test_changes_stay_if_the_block_ends_without_an_exception(self):
        rollout = prepared()
        with rollout:
            rollout.change("c", "c")
            rollout.undo()
        self.same([rollout.state, rollout.history, rollout.redo(), rollout.redo()], [("c",), ["c", "c"], True, False])

    def test_changes_can_be_undone_after_the_block(self):
        rollout = Rollout(example(), ())
        with rollout:
            rollout.change("b", "a")
        self.same([rollout.undo(), rollout.undo(), rollout.undo(), rollout.state], [True, True, False, ()])

    def test_changes_from_before_the_block_can_be_undone_in_it(self):
        rollout = prepared()
        with rollout:
            self.same([rollout.undo(), rollout.undo(), rollout.state], [True, False, ("c",)])
        self.same([rollout.state, rollout.history], [("c",), []])

    def test_an_exception_restores_everything(self):
        def change(rollout):
            rollout.change("c")

        def undo(rollout):
            rollout.undo()

        def redo(rollout):
            rollout.redo()
            rollout.redo()

        def advance(rollout):
            rollout.advance(2)

        def attempt(rollout):
            rollout.attempt("b")

        def all_of_them(rollout):
            rollout.undo()
            rollout.change("c", "c", "c")
            rollout.undo()
            rollout.advance(1)

        def nothing(_):
            pass

        for act in (change, undo, redo, advance, attempt, all_of_them, nothing):
            for error in (Stop, KeyError, KeyboardInterrupt, GeneratorExit, NoGoal):
                rollout = prepared()
                before = everything(rollout)
                with self.subTest(f"{act.__name__} {error.__name__}"):
                    with self.assertRaises(error):
                        with rollout:
                            act(rollout)
                            raise error()
                    self.same(everything(rollout), before)

    def test_the_exception_goes_on_as_it_is(self):
        error = Stop("this one")
        with self.assertRaises(Stop) as caught:
            with Rollout(example(), ()) as rollout:
                rollout.change("b")
                raise error
        self.assertIs(caught.exception, error)

    def test_an_error_of_change_in_the_block(self):
        rollout = prepared()
        before = everything(rollout)
        with self.assertRaises(IllegalStep):
            with rollout:
                rollout.change("b")
                rollout.change("a", "c")
        self.same(everything(rollout), before)

    def test_an_error_that_is_caught_in_the_block(self):
        rollout = prepared()
        with rollout:
            rollout.change("b")
            with self.assertRaises(IllegalStep):
                rollout.change("a", "c")
            rollout.change("a")
        self.same([rollout.state, rollout.history], [("a", "b"), ["c", "b", "a"]])

    def test_leaving_the_block_by_return_and_break(self):
        rollout = Rollout(example(), ())

        def leave():
            with rollout:
                rollout.change("b")
                return 5
        self.same([leave(), rollout.state], [5, ("b",)])
        for _ in range(3):
            with rollout:
                rollout.change("a")
                break
        self.same([rollout.state, rollout.history], [("a", "b"), ["b", "a"]])

    def test_blocks_one_after_another(self):
        rollout = Rollout(example(), ())
        with rollout:
            rollout.change("b")
        with self.assertRaises(Stop):
            with rollout:
                rollout.change("a")
                raise Stop()
        self.same([rollout.state, rollout.history], [("b",), ["b"]])
        with rollout:
            rollout.change("b")
        with self.assertRaises(Stop):
            with rollout:
                rollout.change("c")
                raise Stop()
        self.same([rollout.state, rollout.history], [(), ["b", "b"]])

    def test_blocks_of_two_rollouts(self):
        one, other = Rollout(example(), ()), Rollout(example(), ())
        with one:
            one.change("b")
            with self.assertRaises(Stop):
                with other:
                    other.change("c")
                    one.change("a")
                    raise Stop()
        self.same([one.state, other.state], [("a", "b"), ()])


class AlreadyOpenTest(Case):
    def open_again(self, rollout):
        with self.assertRaises(AlreadyOpen) as caught:
            with rollout:
                self.fail("an open rollout was opened")
        self.assertIs(type(caught.exception), AlreadyOpen)
        self.same(vars(caught.exception), {})

    def test_an_open_rollout_cannot_be_opened_again(self):
        rollout = prepared()
        with rollout:
            self.open_again(rollout)
            rollout.change("b")
            self.open_again(rollout)
        self.same([rollout.state, rollout.history], [("b",), ["c", "b"]])

    def test_the_block_goes_on_as_it_began(self):
        rollout = prepared()
        before = everything(rollout)
        with self.assertRaises(Stop):
            with rollout:
                rollout.change("b")
                self.open_again(rollout)
                rollout.change("a")
                raise Stop()
        self.same(everything(rollout), before)

    def test_the_error_ends_the_outer_block_if_it_is_not_caught(self):
        rollout = prepared()
        before = everything(rollout)
        with self.assertRaises(AlreadyOpen):
            with rollout:
                rollout.change("b")
                with rollout:
                    pass
        self.same(everything(rollout), before)

    def test_it_can_be_opened_again_after_the_block(self):
        rollout = Rollout(example(), ())
        for _ in range(2):
            with rollout:
                self.open_again(rollout)
            with self.assertRaises(Stop):
                with rollout:
                    raise Stop()


class AttemptTest(Case):
    def test_legal_changes(self):
        rollout = prepared()
        self.same([rollout.attempt("b", "a"), rollout.state, rollout.history, rollout.redo()],
                  [True, ("a", "b"), ["c", "b", "a"], False])

    def test_no_changes(self):
        rollout = prepared()
        before = everything(rollout)
        self.same([rollout.attempt(), everything(rollout)], [True, before])

    def test_errors_change_nothing(self):
        rollout = prepared()
        before = everything(rollout)
        for names in (("a",), ("b", "c"), ("b", "a", "x"), ("x",), (None,), (["b"],), ("b", ("b",))):
            self.same([rollout.attempt(*names), everything(rollout)], [False, before])

    def test_an_open_rollout(self):
        rollout = prepared()
        with rollout:
            before = everything(rollout)
            for names in ((), ("b",), ("a",), ("x",)):
                self.same([rollout.attempt(*names), everything(rollout)], [False, before])
            rollout.change("b")
            self.same([rollout.attempt("a"), rollout.state], [False, ("b",)])
        self.same([rollout.state, rollout.attempt("a"), rollout.state], [("b",), True, ("a", "b")])

    def test_an_attempt_leaves_the_block_around_it_open(self):
        rollout = prepared()
        before = everything(rollout)
        with self.assertRaises(Stop):
            with rollout:
                rollout.change("b")
                self.same(rollout.attempt("a"), False)
                with self.assertRaises(AlreadyOpen):
                    with rollout:
                        pass
                raise Stop()
        self.same(everything(rollout), before)

    def test_it_is_closed_after_an_attempt(self):
        rollout = prepared()
        for names in (("b",), ("x",), ("c",), ()):
            rollout.attempt(*names)
            with rollout:
                pass

    def test_attempts_can_be_undone(self):
        rollout = Rollout(Rules(("a", "b", "c"), equal("a", "b")), ())
        self.same([rollout.attempt("c"), rollout.attempt("a", "b"), rollout.undo(), rollout.state],
                  [True, False, True, ()])

    def test_other_errors_go_on(self):
        class Odd(Rollout):
            def change(self, *names):
                super().change(*names)
                raise Stop()

        rollout = Odd(example(), ())
        with self.assertRaises(Stop):
            rollout.attempt("b")
        self.same([rollout.state, rollout.history], [(), []])
        self.assertFalse(issubclass(Stop, StepError))


if __name__ == "__main__":
    unittest.main()
