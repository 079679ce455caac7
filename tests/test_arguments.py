"""Points 1 and 3 for all functions that take a start, a goal, a state or a single switch."""

import inspect
import unittest

from flagsteps.errors import IllegalState, InvalidState, StepError
from flagsteps.islands import island_of, islands, same_island
from flagsteps.rollout import Rollout
from flagsteps.rounds import fewest_rounds, find_batches, find_rounds, least_batch, round_range
from flagsteps.rules import Rules
from flagsteps.ways import (all_ways, count_ways, find_way, is_circle, must_precede, order_pairs, states_on_way)
from tests.helpers import NO_NAMES, TEN_NAMES, VALUES_OF_ALL_KINDS, Case, equal, listed

# The legal states of these rules are (), b, c and a b.
RULES = Rules(("a", "b", "c"), (("needs", "a", "b"), ("excludes", "b", "c")))


def new_rollout(rules, state, goal):
    return Rollout(rules, state, goal=goal)


def resumed(rules, state, goal):
    return Rollout.resumed(rules, state, ["x"], goal=goal)


# Functions of rules, a state and another state; what else they take is good, or is checked later.
OF_TWO_STATES = {
    "same_island": same_island, "order_pairs": order_pairs, "find_way": find_way, "all_ways": listed(all_ways),
    "count_ways": count_ways, "find_rounds": find_rounds, "fewest_rounds": fewest_rounds,
    "find_batches": find_batches, "least_batch": least_batch, "Rollout": new_rollout, "resumed": resumed,
    "is_circle": lambda rules, start, goal: is_circle(rules, start, goal, None),
    "must_precede": lambda rules, start, goal: must_precede(rules, start, goal, rules.names[0], rules.names[1]),
    "round_range": lambda rules, start, goal: round_range(rules, start, goal, rules.names[0]),
}
OF_ONE_STATE = {
    "island_of": island_of, "Rollout": Rollout,
    "resumed": lambda rules, state: Rollout.resumed(rules, state, ["x"]),
    "states_on_way": lambda rules, start: list(states_on_way(rules, start, ["x"])),
    "states on an empty way": lambda rules, start: list(states_on_way(rules, start, [])),
}
# An invalid or illegal state of RULES with its error and the index that this has.
WRONG_STATES = [
    (("b", "a"), InvalidState, 1), (("a", "b", "b"), InvalidState, 2), (("a", "b", "x"), InvalidState, 2),
    (("a", "b", "c", "d"), InvalidState, 3), (("x",), InvalidState, 0), (("a", "x", "b"), InvalidState, 1),
    (("a", "c", "b"), InvalidState, 2), (["a", "b"], InvalidState, 0), ("ab", InvalidState, 0),
    (("a",), IllegalState, 0), (("a", "c"), IllegalState, 0), (("b", "c"), IllegalState, 1),
    (("a", "b", "c"), IllegalState, 1),
]


def wrong_states():
    found = list(WRONG_STATES)
    # None as a goal means none, and is left to the tests of rollouts.
    for value in VALUES_OF_ALL_KINDS:
        if not isinstance(value, tuple) and value is not None:
            found.append((value, InvalidState, 0))
    for value in NO_NAMES:
        found.extend([((value,), InvalidState, 0), (("a", "b", value), InvalidState, 2)])
    return found


class WrongStatesTest(Case):
    def test_functions_of_one_state(self):
        for name, call in OF_ONE_STATE.items():
            with self.subTest(name):
                for state, error, index in wrong_states() + [(None, InvalidState, 0)]:
                    self.fails(error, {"index": index}, call, RULES, state)

    def test_the_first_of_two_states(self):
        for name, call in OF_TWO_STATES.items():
            with self.subTest(name):
                for state, error, index in wrong_states() + [(None, InvalidState, 0)]:
                    self.fails(error, {"index": index}, call, RULES, state, ("b",))

    def test_the_second_of_two_states(self):
        for name, call in OF_TWO_STATES.items():
            with self.subTest(name):
                for state, error, index in wrong_states():
                    self.fails(error, {"index": index}, call, RULES, ("a", "b"), state)

    def test_none_as_the_second_of_two_states(self):
        for name, call in OF_TWO_STATES.items():
            if name not in ("Rollout", "resumed"):
                self.fails(InvalidState, {"index": 0}, call, RULES, ("b",), None)

    def test_the_first_of_two_wrong_states_is_reported(self):
        for name, call in OF_TWO_STATES.items():
            with self.subTest(name):
                for state, error, index in WRONG_STATES:
                    for other, _, _ in WRONG_STATES:
                        self.fails(error, {"index": index}, call, RULES, state, other)

    def test_the_first_broken_clause_is_reported(self):
        clauses = (("needs", "a", "a"), ("excludes", "b", "b"), ("either", "a", "a"), ("needs", "a", "b"))
        rules = Rules(("a", "b"), clauses)
        for call in OF_TWO_STATES.values():
            self.fails(IllegalState, {"index": 2}, call, rules, (), ())
            self.fails(IllegalState, {"index": 1}, call, rules, ("a", "b"), ())
            self.fails(IllegalState, {"index": 3}, call, rules, ("a",), ())

    def test_without_clauses_no_state_is_illegal(self):
        rules = Rules.free(*TEN_NAMES)
        for name, call in OF_TWO_STATES.items():
            if name != "resumed":
                call(Rules.free("a", "b"), (), ("a", "b"))
            self.fails(InvalidState, {"index": 10}, call, rules, (), TEN_NAMES + ("one",))


class UnknownSwitchTest(Case):
    """The document has unknown switches reported before everything else in two functions."""

    def test_must_precede(self):
        for value in NO_NAMES + ("d", "ab", "needs"):
            self.unknown(value, must_precede, RULES, (), ("b",), value, "b")
            self.unknown(value, must_precede, RULES, (), ("b",), "b", value)
            self.unknown(value, must_precede, RULES, None, ("a",), "a", value)
            self.unknown(value, must_precede, RULES, ("a",), None, value, "x")

    def test_the_first_of_two_unknown_switches(self):
        self.unknown("x", must_precede, RULES, (), (), "x", "y")
        self.unknown("y", must_precede, RULES, (), (), "a", "y")

    def test_round_range(self):
        for value in NO_NAMES + ("d", "ab", "needs"):
            self.unknown(value, round_range, RULES, (), ("b",), value)
            self.unknown(value, round_range, RULES, ("a",), None, value)

    def test_before_there_is_no_way(self):
        rules = Rules(("a", "b"), equal("a", "b"))
        self.unknown("c", must_precede, rules, (), ("a", "b"), "a", "c")
        self.unknown("c", round_range, rules, (), ("a", "b"), "c")

    def test_states_on_way(self):
        for value in NO_NAMES + ("d", "ab"):
            self.unknown(value, listed(states_on_way), RULES, (), [value])
            self.unknown(value, listed(states_on_way), RULES, (), ["b", "a", value, "x"])

    def test_rollouts(self):
        rollout = Rollout(RULES, ())
        for value in NO_NAMES + ("d", "ab"):
            self.unknown(value, rollout.change, value)
            self.unknown(value, rollout.change, "b", "a", value, "x")
            self.unknown(value, Rollout.resumed, RULES, (), ["b", value])
            self.same(rollout.attempt("b", value), False)
        self.same([rollout.state, rollout.history], [(), []])


class GeneratorsTest(Case):
    def test_nothing_is_checked_before_the_first_value_is_requested(self):
        for generator in (all_ways(None, None, None), states_on_way(None, None, None), islands(None),
                          all_ways(RULES, ("a",), None), states_on_way(RULES, ("a",), ["b"]),
                          islands(Rules(("a",), (("either", "a", "a"), ("excludes", "a", "a"))))):
            self.assertTrue(inspect.isgenerator(generator))

    def test_everything_is_checked_when_the_first_value_is_requested(self):
        for generator in (all_ways(RULES, ("a",), None), all_ways(RULES, (), ("a",)),
                          states_on_way(RULES, ("a",), []), states_on_way(RULES, (), ["x"]),
                          islands(Rules(("a",), (("either", "a", "a"), ("excludes", "a", "a"))))):
            with self.assertRaises(StepError):
                next(generator)

    def test_generators_do_not_disturb_each_other(self):
        rules = Rules.free("a", "b")
        one, other = all_ways(rules, (), ("a", "b")), all_ways(rules, (), ("a", "b"))
        self.same([next(one), next(other), next(one), next(other)], [["a", "b"], ["a", "b"], ["b", "a"], ["b", "a"]])
        self.same([list(one), list(other)], [[], []])
        one, other = states_on_way(rules, (), ["b", "a"]), states_on_way(rules, (), ["a", "a"])
        self.same([next(one), next(other), next(one), next(other)], [("b",), ("a",), ("a", "b"), ()])
        bound = Rules(("a", "b"), equal("a", "b"))
        one, other = islands(bound), islands(bound)
        self.same([next(one).first, next(one).first, next(other).first, next(other).first],
                  [(), ("a", "b"), (), ("a", "b")])


if __name__ == "__main__":
    unittest.main()
