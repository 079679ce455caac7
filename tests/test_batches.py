"""Point 10: batches of switches that are changed at the same moment."""

import unittest

from flagsteps.rounds import find_batches, least_batch
from flagsteps.rules import Rules
from tests.helpers import (TEN_NAMES, Case, cases, equal, expected_differing, expected_groups, expected_legal,
                           expected_ways, flipped, opposite)


def example():
    return Rules(("a", "b", "c"), (("needs", "a", "b"), ("needs", "b", "a")))


def expected_batches(rules, start, goal):
    """The batches as the document describes them, with all legal states at hand."""
    legal = set(expected_legal(rules))
    left = expected_differing(rules, start, goal)
    groups = [[name for name, _ in group] for group in expected_groups(rules)]
    state = start
    found = []
    while left:
        for name in left:
            batch = ([group for group in groups if name in group] + [[name]])[0]
            after = flipped(rules, state, batch)
            if after in legal:
                break
        else:
            raise AssertionError("no batch is possible")
        found.append(batch)
        state = after
        left = [name for name in left if name not in batch]
    return found


def expected_least(rules, start, goal):
    """The least size with which the goal is reached through legal states, by batches of whatever switches."""
    legal = expected_legal(rules)
    for size in range(len(rules.names) + 1):
        reached = [start]
        for state in reached:
            reached.extend(other for other in legal if other not in reached
                           and len(expected_differing(rules, state, other)) <= size)
        if goal in reached:
            return size
    raise AssertionError("the goal is never reached")


class ExamplesTest(Case):
    def test_find_batches_and_least_batch(self):
        self.same([find_batches(example(), (), ("a", "b", "c")), least_batch(example(), (), ("a", "b", "c"))],
                  [[["a", "b"], ["c"]], 2])


class BatchesTest(Case):
    def check(self, rules, start, goal):
        batches = find_batches(rules, start, goal)
        self.same(batches, expected_batches(rules, start, goal))
        self.same(least_batch(rules, start, goal), expected_least(rules, start, goal))
        state = start
        for batch in batches:
            state = flipped(rules, state, batch)
            self.same(rules.is_legal(state), True)
        self.same(state, goal)

    def test_many_rules(self):
        for rules, start, goal in cases():
            self.check(rules, start, goal)

    def test_batches_of_one_are_the_first_way(self):
        for rules, start, goal in cases()[::3]:
            ways = expected_ways(rules, start, goal)
            if ways:
                self.same(find_batches(rules, start, goal), [[name] for name in ways[0]])

    def test_the_start_is_the_goal(self):
        for state in ((), ("c",), ("a", "b"), ("a", "b", "c")):
            self.same([find_batches(example(), state, state), least_batch(example(), state, state)], [[], 0])

    def test_a_group_that_does_not_differ(self):
        self.same(find_batches(example(), ("a", "b"), ("a", "b", "c")), [["c"]])
        self.same(least_batch(example(), (), ("c",)), 1)

    def test_without_clauses(self):
        rules = Rules.free(*TEN_NAMES)
        self.same(find_batches(rules, (), TEN_NAMES), [[name] for name in TEN_NAMES])
        self.same(least_batch(rules, (), TEN_NAMES), 1)

    def test_equal_and_opposite_switches_in_the_order_of_the_names(self):
        rules = Rules(("d", "a", "c", "b"), opposite("a", "b") + equal("b", "d"))
        self.same(find_batches(rules, ("a",), ("d", "c", "b")), [["d", "a", "b"], ["c"]])
        self.same(find_batches(rules, ("d", "c", "b"), ("a",)), [["d", "a", "b"], ["c"]])
        self.same(least_batch(rules, ("a",), ("d", "c", "b")), 3)

    def test_a_group_of_ten(self):
        rules = Rules(TEN_NAMES, tuple(("needs", TEN_NAMES[at - 1], TEN_NAMES[at]) for at in range(10)))
        self.same([find_batches(rules, (), TEN_NAMES), least_batch(rules, (), TEN_NAMES)], [[list(TEN_NAMES)], 10])

    def test_five_groups_of_which_some_differ(self):
        names = TEN_NAMES
        rules = Rules(names, sum([opposite(names[at], names[at + 5]) for at in range(5)], ()))
        start = names[:5]
        goal = (names[0], names[2], names[6], names[8], names[9])
        self.same(find_batches(rules, start, goal), [[names[1], names[6]], [names[3], names[8]], [names[4], names[9]]])
        self.same(least_batch(rules, start, goal), 2)

    def test_the_first_possible_batch_is_the_next_one(self):
        # The group of a and c waits for d, and b waits for this group.
        clauses = equal("a", "c") + (("needs", "a", "d"), ("needs", "b", "c"))
        rules = Rules(("a", "b", "c", "d", "e"), clauses)
        whole = ("a", "b", "c", "d", "e")
        self.same(find_batches(rules, (), whole), [["d"], ["a", "c"], ["b"], ["e"]])
        self.same(find_batches(rules, whole, ()), [["b"], ["a", "c"], ["d"], ["e"]])

    def test_a_circle_without_a_whole_group_in_its_clauses(self):
        # The three switches are bound to each other through different clauses.
        clauses = (("needs", "a", "b"), ("needs", "b", "c"), ("needs", "c", "a"), ("excludes", "c", "d"))
        rules = Rules(("a", "b", "c", "d"), clauses)
        self.same(find_batches(rules, ("d",), ("a", "b", "c")), [["d"], ["a", "b", "c"]])
        self.same(find_batches(rules, ("a", "b", "c"), ("d",)), [["a", "b", "c"], ["d"]])
        self.same(least_batch(rules, ("d",), ("a", "b", "c")), 3)

    def test_constants_and_clauses_with_one_switch_twice(self):
        clauses = (("either", "b", "b"), ("needs", "a", "a"), ("excludes", "d", "d"), ("excludes", "a", "c"))
        rules = Rules(("a", "b", "c", "d"), clauses)
        self.same(find_batches(rules, ("b", "c"), ("a", "b")), [["c"], ["a"]])
        self.same(least_batch(rules, ("b", "c"), ("a", "b")), 1)

    def test_changed_results_change_no_later_ones(self):
        rules = example()
        whole = ("a", "b", "c")
        result = find_batches(rules, (), whole)
        result[0].append("c")
        result.pop()
        self.same(find_batches(rules, (), whole), [["a", "b"], ["c"]])
        self.same(least_batch(rules, (), whole), 2)


if __name__ == "__main__":
    unittest.main()
