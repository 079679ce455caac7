"""Point 11: islands of legal states between which there are ways."""

import inspect
import itertools
import unittest

from flagsteps.errors import IllegalState, Impossible, InvalidState
from flagsteps.groups import settings
from flagsteps.islands import Island, count_islands, island_of, islands, same_island
from flagsteps.rules import Rules
from flagsteps.ways import count_ways
from tests.helpers import (TEN_NAMES, Case, cases, equal, expected_differing, expected_groups, expected_legal,
                           mixed_rules, opposite, rules_with_pairs_of_clauses)


def example():
    return Rules(("a", "b", "c"), (("needs", "a", "b"), ("needs", "b", "a")))


def no_state():
    return Rules(("a", "b"), (("either", "a", "b"), ("excludes", "a", "b")) + equal("a", "b"))


def expected_islands(rules):
    """The lists of the legal states that can be reached from each other by changes of one switch at a time."""
    legal = expected_legal(rules)
    found = []
    for first in legal:
        if not any(first in reached for reached in found):
            reached = [first]
            for state in reached:
                reached.extend(other for other in legal if other not in reached
                               and len(expected_differing(rules, state, other)) == 1)
            found.append([state for state in legal if state in reached])
    return found


def shown(island):
    """All that an island tells."""
    return [island.settings, island.first, island.size, island.states]


def expected_shown(rules, states):
    values = tuple(group[0][0] in states[0] for group in expected_groups(rules))
    return [values, states[0], len(states), states]


class ExamplesTest(Case):
    def test_islands(self):
        rules = example()
        self.same([count_islands(rules), [island.first for island in islands(rules)],
                   [island.size for island in islands(rules)]], [2, [(), ("a", "b")], [2, 2]])

    def test_island_of_and_same_island(self):
        self.same([island_of(example(), ("c",)).states, same_island(example(), (), ("a", "b"))], [[(), ("c",)], False])


class IslandsTest(Case):
    def check(self, rules):
        expected = expected_islands(rules)
        if not expected:
            self.fails(Impossible, {}, count_islands, rules)
            return
        self.same([shown(island) for island in islands(rules)], [expected_shown(rules, states) for states in expected])
        self.same(count_islands(rules), len(expected))
        for states in expected:
            for state in states[::5]:
                self.same(shown(island_of(rules, state)), expected_shown(rules, states))
                self.same(same_island(rules, states[-1], state), True)
        for one, other in itertools.combinations(expected[:4], 2):
            self.same([same_island(rules, one[0], other[-1]), same_island(rules, other[0], one[0])], [False, False])

    def test_all_pairs_of_clauses(self):
        for rules in rules_with_pairs_of_clauses(("b", "c", "a")):
            self.check(rules)

    def test_mixed_rules(self):
        for rules in mixed_rules():
            self.check(rules)

    def test_many_rules(self):
        for rules, start, goal in cases():
            self.same(same_island(rules, start, goal), count_ways(rules, start, goal) > 0)
            self.same(same_island(rules, start, goal), settings(rules, start) == settings(rules, goal))
        for rules, _, _ in cases()[-300:]:
            self.check(rules)

    def test_bound_pairs_of_four_names(self):
        names = ("d", "b", "a", "c")
        for bind, other in itertools.product((equal, opposite), repeat=2):
            for pair, next_pair in itertools.product(itertools.combinations(names, 2), repeat=2):
                self.check(Rules(names, bind(*pair) + other(*next_pair)))

    def test_without_clauses_there_is_one_island(self):
        rules = Rules.free(*TEN_NAMES)
        self.same([count_islands(rules), [shown(island) for island in islands(rules)]],
                  [1, [[(), (), 1024, expected_legal(rules)]]])
        self.same(same_island(rules, (), TEN_NAMES), True)

    def test_thirty_two_islands(self):
        names = TEN_NAMES
        rules = Rules(names, sum([opposite(names[at], names[at + 5]) for at in range(5)], ()))
        states = expected_legal(rules)
        expected = [[tuple(name in state for name in names[:5]), state, 1, [state]] for state in states]
        self.same([shown(island) for island in islands(rules)], expected)
        self.same([len(expected), count_islands(rules)], [32, 32])

    def test_the_order_of_the_first_states(self):
        rules = Rules(("z", "a", "m"), opposite("z", "a"))
        self.same([shown(island) for island in islands(rules)],
                  [[(True,), ("z",), 2, [("z",), ("z", "m")]], [(False,), ("a",), 2, [("a",), ("a", "m")]]])

    def test_only_one_legal_state(self):
        rules = Rules(("a", "b"), (("either", "a", "a"), ("excludes", "b", "a")))
        expected = [(), ("a",), 1, [("a",)]]
        self.same([count_islands(rules), [shown(island) for island in islands(rules)]], [1, [expected]])
        self.same([shown(island_of(rules, ("a",))), same_island(rules, ("a",), ("a",))], [expected, True])

    def test_clauses_with_one_switch_twice(self):
        rules = Rules(("a", "b"), (("either", "a", "a"), ("needs", "b", "b")))
        self.same([shown(island) for island in islands(rules)], [[(), ("a",), 2, [("a",), ("a", "b")]]])

    def test_impossible(self):
        for rules in (no_state(), Rules(("a",), (("either", "a", "a"), ("excludes", "a", "a")))):
            self.fails(Impossible, {}, count_islands, rules)
            self.fails(Impossible, {}, lambda rules: list(islands(rules)), rules)

    def test_with_no_legal_state_the_state_is_reported(self):
        self.fails(IllegalState, {"index": 0}, island_of, no_state(), ())
        self.fails(InvalidState, {"index": 1}, island_of, no_state(), ("b", "a"))
        self.fails(IllegalState, {"index": 1}, same_island, no_state(), ("a", "b"), None)

    def test_islands_is_a_generator(self):
        self.assertTrue(inspect.isgenerator(islands(example())))


class IslandTest(Case):
    def test_all_islands_are_of_the_class(self):
        self.assertEqual([type(island) for island in islands(example())], [Island, Island])
        self.assertIs(type(island_of(example(), ())), Island)

    def test_properties_cannot_be_assigned(self):
        island = island_of(example(), ())
        for name in ("settings", "first", "size", "states"):
            with self.assertRaises(AttributeError):
                setattr(island, name, ())
        self.same(shown(island), [(False,), (), 2, [(), ("c",)]])

    def test_changed_lists_change_no_later_ones(self):
        rules = example()
        island = island_of(rules, ("a", "b"))
        island.states.clear()
        island.states.append(())
        self.same(shown(island), [(True,), ("a", "b"), 2, [("a", "b"), ("a", "b", "c")]])
        self.same(shown(island_of(rules, ("a", "b"))), shown(island))
        for each in islands(rules):
            each.states.clear()
        self.same([shown(each) for each in islands(rules)], [[(False,), (), 2, [(), ("c",)]], shown(island)])


if __name__ == "__main__":
    unittest.main()
