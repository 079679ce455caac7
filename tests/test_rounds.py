"""Point 9: rounds, in which the order of the changes does not matter."""

import itertools
import unittest

from flagsteps.errors import NoWay
from flagsteps.rounds import fewest_rounds, find_rounds, round_range
from flagsteps.rules import Rules
from flagsteps.ways import is_circle
from tests.helpers import (TEN_NAMES, Case, cases, equal, expected_differing, expected_legal, expected_ways, flipped,
                           opposite)


def example():
    return Rules(("a", "b", "c"), (("needs", "a", "b"),))


def choices(names):
    """All non-empty parts of a list."""
    return [part for size in range(1, len(names) + 1) for part in itertools.combinations(names, size)]


def plans(rules, start, goal):
    """All lists of rounds from a start to a goal, by trying each division of the changes into rounds."""
    legal = set(expected_legal(rules))
    changed = expected_differing(rules, start, goal)
    if not changed:
        return [[]]
    found = []
    for names in choices(changed):
        # In whatever order the switches are changed, exactly the parts of the round are changed in between.
        if all(flipped(rules, start, part) in legal for part in choices(names)):
            found.extend([names, *rest] for rest in plans(rules, flipped(rules, start, names), goal))
    return found


def fewest_plans(rules, start, goal):
    found = plans(rules, start, goal)
    least = min(len(plan) for plan in found)
    return [plan for plan in found if len(plan) == least]


def numbers_of(name, rounds_of_plans):
    """The rounds in which the plans change a switch."""
    return [number for plan in rounds_of_plans for number, names in enumerate(plan) if name in names]


class ExamplesTest(Case):
    def test_find_rounds_and_fewest_rounds(self):
        self.same([find_rounds(example(), (), ("a", "b", "c")), fewest_rounds(example(), (), ("a", "b", "c"))],
                  [[["b", "c"], ["a"]], 2])

    def test_round_range(self):
        self.same([round_range(example(), (), ("a", "b", "c"), "c"), round_range(example(), (), ("c",), "a")],
                  [(0, 1), None])


class RoundsTest(Case):
    def check(self, rules, start, goal):
        fewest = fewest_plans(rules, start, goal)
        self.same(fewest_rounds(rules, start, goal), len(fewest[0]))
        expected = [[] for _ in fewest[0]]
        for name in rules.names:
            numbers = numbers_of(name, fewest)
            if numbers:
                expected[min(numbers)].append(name)
                self.same(round_range(rules, start, goal, name), (min(numbers), max(numbers)))
            else:
                self.same(round_range(rules, start, goal, name), None)
        self.same(find_rounds(rules, start, goal), expected)

    def check_no_way(self, rules, start, goal):
        for call, more in [(find_rounds, ()), (fewest_rounds, ()), *((round_range, (name,)) for name in rules.names)]:
            with self.assertRaises(NoWay) as caught:
                call(rules, start, goal, *more)
            self.assertIs(type(caught.exception), NoWay)
            self.same(is_circle(rules, start, goal, caught.exception.circle), True)

    def test_many_rules(self):
        for rules, start, goal in cases():
            if expected_ways(rules, start, goal):
                self.check(rules, start, goal)
            else:
                self.check_no_way(rules, start, goal)

    def test_the_start_is_the_goal(self):
        for state in ((), ("b",), ("c",), ("a", "b")):
            self.same([find_rounds(example(), state, state), fewest_rounds(example(), state, state)], [[], 0])
            self.same([round_range(example(), state, state, name) for name in ("a", "b", "c")], [None] * 3)

    def test_without_clauses_there_is_one_round(self):
        rules = Rules.free(*TEN_NAMES)
        self.same([find_rounds(rules, (), TEN_NAMES), fewest_rounds(rules, (), TEN_NAMES)], [[list(TEN_NAMES)], 1])
        self.same([round_range(rules, TEN_NAMES, (), name) for name in TEN_NAMES], [(0, 0)] * 10)
        self.same(find_rounds(rules, TEN_NAMES[3:4], ()), [["d"]])

    def test_ten_rounds(self):
        rules = Rules(TEN_NAMES, tuple(("needs", TEN_NAMES[at], TEN_NAMES[at - 1]) for at in range(1, 10)))
        self.same([find_rounds(rules, (), TEN_NAMES), fewest_rounds(rules, (), TEN_NAMES)],
                  [[[name] for name in TEN_NAMES], 10])
        self.same(find_rounds(rules, TEN_NAMES, ()), [[name] for name in TEN_NAMES[::-1]])
        self.same([round_range(rules, (), TEN_NAMES, name) for name in TEN_NAMES], [(at, at) for at in range(10)])

    def test_rounds_are_in_the_order_of_the_names_not_of_the_letters(self):
        rules = Rules(("z", "a", "m", "b"), (("needs", "z", "m"),))
        self.same(find_rounds(rules, (), ("z", "a", "m", "b")), [["a", "m", "b"], ["z"]])
        self.same(find_rounds(Rules.free("z", "a", "m"), (), ("z", "a", "m")), [["z", "a", "m"]])

    def test_ranges_beside_a_long_chain(self):
        switches = (("a", "b"), ("b", "c"), ("c", "d"), ("e", "f"))
        rules = Rules(("a", "b", "c", "d", "e", "f", "g"), tuple(("needs", *pair) for pair in switches))
        whole = ("a", "b", "c", "d", "e", "f", "g")
        self.same(find_rounds(rules, (), whole), [["d", "f", "g"], ["c", "e"], ["b"], ["a"]])
        self.same([round_range(rules, (), whole, name) for name in whole],
                  [(3, 3), (2, 2), (1, 1), (0, 0), (1, 3), (0, 2), (0, 3)])

    def test_clauses_with_one_switch_twice_and_equal_clauses(self):
        clauses = (("needs", "a", "a"), ("needs", "a", "b"), ("either", "c", "c"), ("needs", "a", "b"))
        rules = Rules(("a", "b", "c"), clauses)
        self.same(find_rounds(rules, ("c",), ("a", "b", "c")), [["b"], ["a"]])
        self.same([round_range(rules, ("c",), ("a", "b", "c"), name) for name in ("a", "b", "c")],
                  [(1, 1), (0, 0), None])

    def test_no_way(self):
        self.check_no_way(Rules(("a", "b", "c"), equal("a", "b")), (), ("a", "b"))
        self.check_no_way(Rules(("a", "b", "c"), opposite("b", "c")), ("b",), ("a", "c"))
        names = TEN_NAMES
        self.check_no_way(Rules(names, tuple(("needs", names[at - 1], names[at]) for at in range(10))), names, ())

    def test_changed_results_change_no_later_ones(self):
        whole = ("a", "b", "c")
        rules = example()
        result = find_rounds(rules, (), whole)
        result[0].clear()
        result.clear()
        self.same(find_rounds(rules, (), whole), [["b", "c"], ["a"]])
        self.same([fewest_rounds(rules, (), whole), round_range(rules, (), whole, "b")], [2, (0, 0)])


if __name__ == "__main__":
    unittest.main()
