"""Points 6 and 7: the order of changes, ways, and circles."""

import itertools
import unittest

from flagsteps.errors import IllegalState, NoWay
from flagsteps.rules import Rules
from flagsteps.ways import all_ways, count_ways, find_way, is_circle, must_precede, order_pairs
from tests.helpers import (TEN_NAMES, VALUES_OF_ALL_KINDS, Case, cases, equal, expected_differing, expected_legal,
                           expected_pairs, expected_ways, opposite, rules_with_pairs_of_clauses)


def example():
    return Rules(("a", "b", "c"), (("needs", "a", "b"), ("excludes", "b", "c")))


def chain():
    """Each of the ten switches needs the one before it."""
    return Rules(TEN_NAMES, tuple(("needs", TEN_NAMES[at], TEN_NAMES[at - 1]) for at in range(1, 10)))


def bound():
    return Rules(("a", "b", "c"), equal("a", "b"))


def is_expected_circle(rules, start, goal, circle):
    """Whether a tuple of numbers of clauses is a circle, by the words of the document."""
    pairs = {clause: (before, after) for clause, before, after in expected_pairs(rules, start, goal)}
    if not circle or any(clause not in pairs for clause in circle):
        return False
    followed = zip(circle, circle[1:] + circle[:1])
    return all(pairs[one][1] == pairs[following][0] for one, following in followed)


class ExamplesTest(Case):
    def test_order_pairs(self):
        self.same(order_pairs(example(), ("a", "b"), ("c",)), [(0, "a", "b"), (1, "b", "c")])

    def test_find_way(self):
        self.same(find_way(example(), ("a", "b"), ("c",)), ["a", "b", "c"])
        self.fails(IllegalState, {"index": 0}, find_way, example(), ("a", "c"), ("c",))

    def test_is_circle(self):
        self.same([is_circle(bound(), (), ("a", "b"), (0, 1)), is_circle(bound(), (), ("a", "b"), (0,))], [True, False])

    def test_all_ways_and_count_ways(self):
        rules = Rules(("a", "b", "c"), (("needs", "a", "b"),))
        self.same([list(all_ways(rules, (), ("a", "b", "c"))), count_ways(rules, (), ("a", "b", "c"))],
                  [[["b", "a", "c"], ["b", "c", "a"], ["c", "b", "a"]], 3])

    def test_must_precede(self):
        self.same(must_precede(example(), ("a", "b"), ("c",), "a", "c"), True)


class OrderPairsTest(Case):
    def test_needs(self):
        rules = Rules(("a", "b"), (("needs", "a", "b"),))
        self.same(order_pairs(rules, (), ("a", "b")), [(0, "b", "a")])
        self.same(order_pairs(rules, ("a", "b"), ()), [(0, "a", "b")])

    def test_excludes(self):
        rules = Rules(("a", "b"), (("excludes", "a", "b"),))
        self.same(order_pairs(rules, ("a",), ("b",)), [(0, "a", "b")])
        self.same(order_pairs(rules, ("b",), ("a",)), [(0, "b", "a")])

    def test_either(self):
        rules = Rules(("a", "b"), (("either", "a", "b"),))
        self.same(order_pairs(rules, ("a",), ("b",)), [(0, "b", "a")])
        self.same(order_pairs(rules, ("b",), ("a",)), [(0, "a", "b")])

    def test_the_order_of_the_switches_in_the_clause(self):
        self.same(order_pairs(Rules(("a", "b"), (("excludes", "b", "a"),)), ("a",), ("b",)), [(0, "a", "b")])
        self.same(order_pairs(Rules(("a", "b"), (("either", "b", "a"),)), ("a",), ("b",)), [(0, "b", "a")])
        self.same(order_pairs(Rules(("a", "b"), (("needs", "b", "a"),)), (), ("a", "b")), [(0, "a", "b")])

    def test_a_clause_with_one_switch_that_does_not_differ(self):
        rules = example()
        self.same(order_pairs(rules, (), ("b",)), [])
        self.same(order_pairs(rules, ("b",), ("a", "b")), [])
        self.same(order_pairs(rules, ("b",), ("c",)), [(1, "b", "c")])

    def test_a_clause_with_one_switch_twice(self):
        clauses = (("needs", "a", "a"), ("excludes", "b", "b"), ("either", "c", "c"), ("needs", "d", "d"))
        self.same(order_pairs(Rules(("a", "b", "c", "d"), clauses), ("c",), ("a", "c", "d")), [])

    def test_equal_clauses_order_all(self):
        rules = Rules(("a", "b"), (("needs", "a", "b"), ("either", "a", "a"), ("needs", "a", "b")))
        self.same(order_pairs(rules, ("a", "b"), ("a", "b")), [])
        rules = Rules(("a", "b"), (("needs", "a", "b"), ("needs", "a", "a"), ("needs", "a", "b")))
        self.same(order_pairs(rules, (), ("a", "b")), [(0, "b", "a"), (2, "b", "a")])

    def test_the_start_is_the_goal(self):
        for state in ((), ("b",), ("c",), ("a", "b")):
            self.same(order_pairs(example(), state, state), [])

    def test_pairs_of_a_circle(self):
        self.same(order_pairs(bound(), (), ("a", "b")), [(0, "b", "a"), (1, "a", "b")])
        rules = Rules(("a", "b"), opposite("a", "b"))
        self.same(order_pairs(rules, ("a",), ("b",)), [(0, "b", "a"), (1, "a", "b")])

    def test_ten_names(self):
        expected = [(at, TEN_NAMES[at], TEN_NAMES[at + 1]) for at in range(9)]
        self.same(order_pairs(chain(), (), TEN_NAMES), expected)
        self.same(order_pairs(chain(), TEN_NAMES, ()), [(number, after, before) for number, before, after in expected])

    def test_forty_clauses(self):
        rules = Rules(("a", "b"), (("needs", "a", "b"),) * 40)
        self.same(order_pairs(rules, (), ("a", "b")), [(number, "b", "a") for number in range(40)])

    def test_many_rules(self):
        for rules, start, goal in cases():
            self.same(order_pairs(rules, start, goal), expected_pairs(rules, start, goal))


class WaysTest(Case):
    def check(self, rules, start, goal):
        ways = expected_ways(rules, start, goal)
        self.same(list(all_ways(rules, start, goal)), ways)
        self.same(count_ways(rules, start, goal), len(ways))
        if ways:
            self.same(find_way(rules, start, goal), ways[0])
        else:
            self.check_no_way(rules, start, goal, find_way, rules, start, goal)

    def check_no_way(self, rules, start, goal, call, *arguments):
        with self.assertRaises(NoWay) as caught:
            call(*arguments)
        self.assertIs(type(caught.exception), NoWay)
        circle = caught.exception.circle
        self.assertIs(type(circle), tuple)
        self.same(is_circle(rules, start, goal, circle), True)
        self.same(is_expected_circle(rules, start, goal, circle), True)

    def test_many_rules(self):
        for rules, start, goal in cases():
            self.check(rules, start, goal)

    def test_a_list_of_the_differing_switches_is_a_way_exactly_if_it_follows_the_order(self):
        for rules, start, goal in cases()[::5]:
            pairs = order_pairs(rules, start, goal)
            orders = itertools.permutations(expected_differing(rules, start, goal))
            ways = [list(order) for order in orders
                    if all(order.index(before) < order.index(after) for _, before, after in pairs)]
            self.same(list(all_ways(rules, start, goal)), ways)

    def test_if_any_changes_lead_to_a_goal_there_is_a_way(self):
        for rules in rules_with_pairs_of_clauses(("b", "c", "a"))[::3]:
            legal = expected_legal(rules)
            for start in legal[:3]:
                reached = [start]
                for state in reached:
                    reached.extend(other for other in legal if other not in reached
                                   and len(expected_differing(rules, state, other)) == 1)
                for goal in legal:
                    self.same(count_ways(rules, start, goal) > 0, goal in reached)

    def test_the_start_is_the_goal(self):
        for state in ((), ("b",), ("c",), ("a", "b")):
            self.same(find_way(example(), state, state), [])
            self.same(list(all_ways(example(), state, state)), [[]])
            self.same(count_ways(example(), state, state), 1)

    def test_the_first_way_is_in_the_order_of_the_names_not_of_the_letters(self):
        self.same(find_way(Rules.free("z", "a", "m"), ("m",), ("z", "a")), ["z", "a", "m"])
        rules = Rules(("z", "a", "m"), (("needs", "z", "m"),))
        self.same(find_way(rules, (), ("z", "a", "m")), ["a", "m", "z"])
        self.same(list(all_ways(rules, (), ("z", "a", "m"))), [["a", "m", "z"], ["m", "z", "a"], ["m", "a", "z"]])

    def test_a_switch_is_changed_as_soon_as_it_is_the_first_possible_one(self):
        rules = Rules(("a", "b", "c", "d"), (("needs", "a", "c"),))
        self.same(find_way(rules, (), ("a", "b", "c", "d")), ["b", "c", "a", "d"])

    def test_only_differing_switches_are_changed(self):
        rules = Rules(("a", "b", "c"), (("needs", "a", "b"),))
        self.same(find_way(rules, ("c",), ("b", "c")), ["b"])
        self.same(list(all_ways(rules, ("b", "c"), ("a", "b"))), [["a", "c"], ["c", "a"]])

    def test_ten_names_in_a_chain(self):
        self.same(find_way(chain(), (), TEN_NAMES), list(TEN_NAMES))
        self.same(find_way(chain(), TEN_NAMES, ()), list(TEN_NAMES[::-1]))
        self.same(list(all_ways(chain(), TEN_NAMES, ())), [list(TEN_NAMES[::-1])])
        self.same(count_ways(chain(), (), TEN_NAMES), 1)

    def test_ten_names_without_clauses(self):
        rules = Rules.free(*TEN_NAMES)
        self.same(find_way(rules, (), TEN_NAMES), list(TEN_NAMES))
        self.same(count_ways(rules, (), TEN_NAMES), 3628800)
        ways = all_ways(rules, (), TEN_NAMES)
        self.same(next(ways), list(TEN_NAMES))
        self.same(next(ways), list(TEN_NAMES[:8] + (TEN_NAMES[9], TEN_NAMES[8])))

    def test_ten_names_in_two_chains(self):
        names = TEN_NAMES
        clauses = tuple(("needs", names[at], names[at - 2]) for at in range(2, 10))
        rules = Rules(names, clauses)
        self.same(count_ways(rules, (), names), 252)
        ways = list(all_ways(rules, (), names))
        self.same([len(ways), ways[0], ways[-1]],
                  [252, list(names), list(names[1::2] + names[::2])])
        self.same(ways, sorted(ways, key=lambda way: [names.index(name) for name in way]))

    def test_a_circle_of_two_clauses(self):
        for rules, start, goal in ((bound(), (), ("a", "b")), (bound(), ("a", "b", "c"), ()),
                                   (Rules(("a", "b"), opposite("a", "b")), ("a",), ("b",))):
            self.check(rules, start, goal)
            self.same([list(all_ways(rules, start, goal)), count_ways(rules, start, goal)], [[], 0])

    def test_a_circle_of_ten_clauses(self):
        rules = Rules(TEN_NAMES, tuple(("needs", TEN_NAMES[at - 1], TEN_NAMES[at]) for at in range(10)))
        with self.assertRaises(NoWay) as caught:
            find_way(rules, (), TEN_NAMES)
        circle = caught.exception.circle
        self.same(sorted(circle), list(range(10)))
        self.same(is_circle(rules, (), TEN_NAMES, circle), True)
        self.same(is_expected_circle(rules, (), TEN_NAMES, circle), True)
        self.same([list(all_ways(rules, TEN_NAMES, ())), count_ways(rules, TEN_NAMES, ())], [[], 0])

    def test_a_circle_behind_possible_changes_and_before_waiting_ones(self):
        switches = (("a", "b"), ("b", "c"), ("c", "d"), ("d", "b"), ("d", "e"))
        rules = Rules(("a", "b", "c", "d", "e"), tuple(("needs", *pair) for pair in switches))
        self.check(rules, (), ("a", "b", "c", "d", "e"))
        with self.assertRaises(NoWay) as caught:
            find_way(rules, (), ("a", "b", "c", "d", "e"))
        self.same(sorted(caught.exception.circle), [1, 2, 3])

    def test_a_circle_and_many_free_switches(self):
        rules = Rules(TEN_NAMES, opposite(TEN_NAMES[8], TEN_NAMES[9]))
        start, goal = (TEN_NAMES[9],), TEN_NAMES[:9]
        self.check_no_way(rules, start, goal, find_way, rules, start, goal)
        self.same([list(all_ways(rules, start, goal)), count_ways(rules, start, goal)], [[], 0])

    def test_changed_results_change_no_later_ones(self):
        rules = Rules(("a", "b", "c"), (("needs", "a", "b"), ("needs", "a", "c")))
        whole = ("a", "b", "c")
        order_pairs(rules, (), whole).clear()
        find_way(rules, (), whole).clear()
        seen = []
        for way in all_ways(rules, (), whole):
            seen.append(list(way))
            way.clear()
        self.same(seen, [["b", "c", "a"], ["c", "b", "a"]])
        self.same(order_pairs(rules, (), whole), [(0, "b", "a"), (1, "c", "a")])
        self.same(find_way(rules, (), whole), ["b", "c", "a"])
        self.same(list(all_ways(rules, (), whole)), seen)
        self.same(count_ways(rules, (), whole), 2)


class IsCircleTest(Case):
    def test_many_rules(self):
        for rules, start, goal in cases()[::6]:
            numbers = range(min(6, len(rules.clauses) + 1))
            for size in range(4):
                for circle in itertools.product(numbers, repeat=size):
                    self.same(is_circle(rules, start, goal, circle), is_expected_circle(rules, start, goal, circle))

    def test_a_circle_may_begin_anywhere_but_has_one_direction(self):
        rules = Rules(("a", "b", "c"), (("needs", "a", "b"), ("needs", "b", "c"), ("needs", "c", "a")))
        whole = ("a", "b", "c")
        # Clause 0 changes b before a, clause 2 a before c, clause 1 c before b.
        for circle, expected in (((0, 2, 1), True), ((2, 1, 0), True), ((1, 0, 2), True),
                                 ((0, 1, 2), False), ((0, 2), False), ((0, 0), False), ((1,), False)):
            self.same(is_circle(rules, (), whole, circle), expected)
        # Back to the start, everything is the other way round.
        self.same([is_circle(rules, whole, (), (0, 1, 2)), is_circle(rules, whole, (), (0, 2, 1))], [True, False])

    def test_clauses_may_occur_several_times(self):
        for circle, expected in (((0, 1, 0, 1), True), ((1, 0) * 20, True), ((0, 1, 0), False), ((0, 1, 1, 0), False)):
            self.same(is_circle(bound(), (), ("a", "b"), circle), expected)

    def test_two_circles_that_share_a_switch(self):
        rules = Rules(("a", "b", "c"), equal("a", "b") + equal("a", "c"))
        whole = ("a", "b", "c")
        for size in range(5):
            for circle in itertools.product(range(4), repeat=size):
                self.same(is_circle(rules, (), whole, circle), is_expected_circle(rules, (), whole, circle))
        # Clauses 0 and 2 end with a change of a, clauses 1 and 3 begin with one.
        for circle, expected in (((0, 1), True), ((2, 3), True), ((0, 3, 2, 1), True), ((0, 3), False)):
            self.same(is_circle(rules, (), whole, circle), expected)

    def test_clauses_that_order_nothing(self):
        others = (("needs", "a", "a"), ("needs", "c", "c"), ("either", "a", "c"))
        rules = Rules(("a", "b", "c"), equal("a", "b") + others)
        for circle in ((2,), (3,), (2, 2), (0, 1, 2), (2, 0, 1), (4,), (0, 1, 4)):
            self.same(is_circle(rules, ("c",), ("a", "b", "c"), circle), False)
        self.same(is_circle(rules, ("c",), ("a", "b", "c"), (0, 1)), True)
        self.same(is_circle(rules, ("c",), ("c",), (0, 1)), False)

    def test_values_of_all_kinds(self):
        for value in VALUES_OF_ALL_KINDS:
            self.same(is_circle(bound(), (), ("a", "b"), value), False)
            self.same(is_circle(bound(), (), ("a", "b"), (value,)), False)
            if value not in (0, 1) or isinstance(value, bool):
                self.same(is_circle(bound(), (), ("a", "b"), (0, value)), False)
                self.same(is_circle(bound(), (), ("a", "b"), (value, 1)), False)
                self.same(is_circle(bound(), (), ("a", "b"), (0, 1, value)), False)

    def test_near_circles(self):
        for value in ([0, 1], ((0, 1),), (False, True), (0, True), (-2, -1), (0, -1), (0, 2), ("0", "1"), (0, 1, None)):
            self.same(is_circle(bound(), (), ("a", "b"), value), False)


class MustPrecedeTest(Case):
    def test_many_rules(self):
        for rules, start, goal in cases():
            ways = expected_ways(rules, start, goal)
            for first, later in itertools.product(rules.names, repeat=2):
                if ways:
                    changed = first in ways[0] and later in ways[0]
                    expected = changed and all(way.index(first) < way.index(later) for way in ways)
                    self.same(must_precede(rules, start, goal, first, later), expected)

    def test_directly_and_through_others(self):
        for first, later in itertools.product(range(10), repeat=2):
            names = (TEN_NAMES[first], TEN_NAMES[later])
            self.same(must_precede(chain(), (), TEN_NAMES, *names), first < later)
            self.same(must_precede(chain(), TEN_NAMES, (), *names), first > later)

    def test_switches_that_are_not_changed(self):
        rules = example()
        for first, later in itertools.product(("a", "b", "c"), repeat=2):
            self.same(must_precede(rules, ("b",), ("b",), first, later), False)
            self.same(must_precede(rules, ("b",), ("a", "b"), first, later), False)
            self.same(must_precede(rules, ("b",), ("c",), first, later), (first, later) == ("b", "c"))

    def test_a_switch_and_itself(self):
        for name in ("a", "b", "c"):
            self.same(must_precede(example(), ("a", "b"), ("c",), name, name), False)

    def test_no_way(self):
        for first, later in itertools.product(("a", "b", "c"), repeat=2):
            with self.assertRaises(NoWay) as caught:
                must_precede(bound(), (), ("a", "b"), first, later)
            self.same(is_circle(bound(), (), ("a", "b"), caught.exception.circle), True)


if __name__ == "__main__":
    unittest.main()
