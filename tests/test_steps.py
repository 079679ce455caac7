"""Point 8: the states after the changes of a list."""

import unittest

from flagsteps.errors import IllegalState, IllegalStep, InvalidState
from flagsteps.rules import Rules
from flagsteps.ways import states_on_way
from tests.helpers import NO_NAMES, TEN_NAMES, Case, Mixer, cases, expected_ways, flipped, holds, listed

steps = listed(states_on_way)


def example():
    return Rules(("a", "b", "c"), (("needs", "a", "b"), ("excludes", "b", "c")))


def step_fault(index, clause):
    return {"index": index, "clause": clause}


class ExamplesTest(Case):
    def test_states(self):
        self.same(steps(example(), (), ["b", "a", "a"]), [("b",), ("a", "b"), ("b",)])

    def test_illegal_step(self):
        self.fails(IllegalStep, step_fault(1, 1), steps, example(), (), ["b", "c"])


class StatesTest(Case):
    def test_no_changes(self):
        for state in ((), ("b",), ("c",), ("a", "b")):
            self.same(steps(example(), state, []), [])

    def test_no_changes_from_wrong_states(self):
        self.fails(IllegalState, {"index": 1}, steps, example(), ("b", "c"), [])
        self.fails(InvalidState, {"index": 1}, steps, example(), ("c", "b"), [])

    def test_the_start_comes_before_the_changes(self):
        self.fails(IllegalState, {"index": 0}, steps, example(), ("a",), ["x"])
        self.fails(InvalidState, {"index": 0}, steps, example(), ["b"], ["c", "c"])

    def test_a_switch_that_occurs_several_times(self):
        self.same(steps(example(), ("b",), ["a", "a", "b", "b", "b"]), [("a", "b"), ("b",), (), ("b",), ()])
        self.same(steps(Rules.free("a"), (), ["a"] * 9), [("a",), ()] * 4 + [("a",)])

    def test_states_are_in_the_order_of_the_names(self):
        self.same(steps(Rules.free("z", "a", "m"), (), ["m", "z", "a", "z"]),
                  [("m",), ("z", "m"), ("z", "a", "m"), ("a", "m")])

    def test_ten_names(self):
        rules = Rules.free(*TEN_NAMES)
        self.same(steps(rules, (), list(TEN_NAMES)), [TEN_NAMES[:many] for many in range(1, 11)])
        self.same(steps(rules, TEN_NAMES, list(TEN_NAMES)), [TEN_NAMES[many:] for many in range(1, 11)])

    def test_ways(self):
        for rules, start, goal in cases()[::4]:
            for way in expected_ways(rules, start, goal)[:3]:
                states = steps(rules, start, way)
                self.same(states, [flipped(rules, start, way[:many]) for many in range(1, len(way) + 1)])
                self.same([start, *states][-1], goal)

    def test_lists_that_are_no_ways(self):
        mixer = Mixer()
        for rules, start, _ in cases():
            way = [mixer.one_of(rules.names) for _ in range(6)]
            self.check_until_the_first_fault(rules, start, way)

    def check_until_the_first_fault(self, rules, start, way):
        expected = []
        for index in range(len(way)):
            state = flipped(rules, start, way[:index + 1])
            broken = [number for number, clause in enumerate(rules.clauses) if not holds(clause, state)]
            if broken:
                self.check_prefix(IllegalStep, step_fault(index, broken[0]), expected, rules, start, way)
                return
            expected.append(state)
        self.same(steps(rules, start, way), expected)

    def check_prefix(self, error, attributes, expected, *arguments):
        """The generator yields these states and then raises the error."""
        seen = []

        def run():
            for state in states_on_way(*arguments):
                seen.append(state)

        self.fails(error, attributes, run)
        self.same(seen, expected)

    def test_states_before_a_fault_are_yielded(self):
        self.check_prefix(IllegalStep, step_fault(2, 1), [("b",), ("a", "b")], example(), (), ["b", "a", "c", "x"])
        generator = states_on_way(example(), (), ["b", "x"])
        self.same(next(generator), ("b",))
        self.unknown("x", next, generator)


class ErrorsTest(Case):
    def test_the_first_broken_clause(self):
        clauses = (("needs", "a", "a"), ("excludes", "b", "c"), ("either", "a", "a"), ("excludes", "c", "a"))
        rules = Rules(("a", "b", "c"), clauses)
        self.fails(IllegalStep, step_fault(1, 1), steps, rules, ("a",), ["b", "c"])
        self.fails(IllegalStep, step_fault(0, 3), steps, rules, ("a",), ["c"])
        self.fails(IllegalStep, step_fault(2, 2), steps, rules, ("a",), ["b", "b", "a"])

    def test_the_first_change_with_a_fault(self):
        self.fails(IllegalStep, step_fault(0, 0), steps, example(), (), ["a", "x"])
        self.unknown("x", steps, example(), (), ["x", "a"])
        self.unknown("x", steps, example(), (), ["b", "x", "c"])
        self.fails(IllegalStep, step_fault(1, 1), steps, example(), (), ["b", "c", "x"])

    def test_a_fault_that_the_next_change_would_mend(self):
        self.fails(IllegalStep, step_fault(0, 0), steps, example(), (), ["a", "b"])
        self.fails(IllegalStep, step_fault(1, 1), steps, example(), (), ["c", "b", "c"])

    def test_each_kind_of_unknown_switch(self):
        for value in NO_NAMES + ("ab", "bc", "A"):
            self.unknown(value, steps, example(), (), ["b", value])


class ListsTest(Case):
    def test_the_list_is_neither_modified_nor_kept(self):
        way = ["b", "a", "a"]
        generator = states_on_way(example(), (), way)
        self.same(next(generator), ("b",))
        self.same(way, ["b", "a", "a"])
        way.clear()
        self.same(list(generator), [("a", "b"), ("b",)])
        way = ["b"]
        generator = states_on_way(example(), (), way)
        self.same(next(generator), ("b",))
        way.append("a")
        self.same(list(generator), [])

    def test_equal_calls_yield_equal_values(self):
        way = ["b", "a"]
        steps(example(), (), way).clear()
        self.same([steps(example(), (), way), way], [[("b",), ("a", "b")], ["b", "a"]])


if __name__ == "__main__":
    unittest.main()
