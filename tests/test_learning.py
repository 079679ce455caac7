"""Point 14: clauses and rules learned from observed states, and the closure of these."""

import inspect
import itertools
import unittest

from flagsteps.errors import InvalidRules, InvalidStates, TooManyClauses
from flagsteps.learning import closure, common_clauses, learn_rules
from flagsteps.rules import Rules
from tests.helpers import (NO_NAMES, TEN_NAMES, VALUES_OF_ALL_KINDS, Case, Mixer, all_states, expected_legal, holds,
                           listed, mixed_rules, parts, rules_with_pairs_of_clauses, wrong_names)

CALLS = {"common_clauses": listed(common_clauses), "learn_rules": learn_rules, "closure": listed(closure)}
THREE = ("c", "a", "b")
# Written out from the document.
CANDIDATES_OF_THREE = [
    ("either", "c", "c"), ("excludes", "c", "c"),
    ("needs", "c", "a"), ("needs", "a", "c"), ("excludes", "c", "a"), ("either", "c", "a"),
    ("needs", "c", "b"), ("needs", "b", "c"), ("excludes", "c", "b"), ("either", "c", "b"),
    ("either", "a", "a"), ("excludes", "a", "a"),
    ("needs", "a", "b"), ("needs", "b", "a"), ("excludes", "a", "b"), ("either", "a", "b"),
    ("either", "b", "b"), ("excludes", "b", "b"),
]


def expected_candidates(names):
    """The candidates for any names: those of each three of them tell the place of each clause."""
    found = {}
    for place, first in enumerate(names):
        found["either", first, first] = (place, 0, 0)
        found["excludes", first, first] = (place, 0, 1)
        for later in range(place + 1, len(names)):
            second = names[later]
            pairs = [("needs", first, second), ("needs", second, first), ("excludes", first, second),
                     ("either", first, second)]
            found.update({clause: (place, later, number) for number, clause in enumerate(pairs)})
    return sorted(found, key=found.get)


def expected_common(names, states):
    return [clause for clause in expected_candidates(names) if all(holds(clause, state) for state in states)]


def implied(names, clauses, clause):
    """Whether all states that fulfil the clauses fulfil the clause, too, by a look at each state."""
    return not any(all(holds(each, state) for each in clauses) and not holds(clause, state)
                   for state in all_states(names))


def expected_learned(names, states):
    left = expected_common(names, states)
    for clause in reversed(list(left)):
        others = [each for each in left if each != clause]
        if implied(names, others, clause):
            left = others
    return tuple(left)


def expected_closure(names, states):
    return [state for state in all_states(names)
            if all(holds(clause, state) for clause in expected_common(names, states))]


def majorities(names, states):
    """All states that come from these by repeated majorities, in the order of legal states."""
    found = set(states)
    grown = True
    while grown:
        more = {tuple(name for name in names if [name in each for each in three].count(True) >= 2)
                for three in itertools.combinations(sorted(found), 3)}
        grown = not more <= found
        found |= more
    return [state for state in all_states(names) if state in found]


def observations():
    """Names with lists of observed states: all of one to three names, and some of more names."""
    found = []
    for names in (("a",), ("b", "a"), THREE):
        states = all_states(names)
        for size in range(1, len(states) + 1):
            found.extend((names, list(chosen)) for chosen in itertools.combinations(states, size))
    mixer = Mixer()
    for many in range(60):
        names = TEN_NAMES[:4 + many % 2]
        states = all_states(names)
        found.append((names, [mixer.one_of(states) for _ in range(1 + many // 10)]))
    return found


class ExamplesTest(Case):
    def test_common_clauses(self):
        self.same(list(common_clauses(("a", "b"), [(), ("b",)])),
                  [("excludes", "a", "a"), ("needs", "a", "b"), ("excludes", "a", "b")])

    def test_invalid_states(self):
        self.fails(InvalidStates, {"index": 1}, listed(common_clauses), ("a", "b"), [(), ("b", "a")])

    def test_learn_rules(self):
        self.same(learn_rules(("a", "b", "c"), [(), ("b",), ("a", "b"), ("c",)]).clauses,
                  (("needs", "a", "b"), ("excludes", "b", "c")))

    def test_closure(self):
        self.same(list(closure(("a", "b", "c"), [("a",), ("b",), ("c",)])), [(), ("a",), ("b",), ("c",)])


class CommonClausesTest(Case):
    def test_the_reference_has_the_candidates_of_the_document(self):
        self.same(expected_candidates(THREE), CANDIDATES_OF_THREE)

    def test_one_state_fulfils_half_of_the_candidates(self):
        self.same(list(common_clauses(THREE, [()])), [
            ("excludes", "c", "c"), ("needs", "c", "a"), ("needs", "a", "c"), ("excludes", "c", "a"),
            ("needs", "c", "b"), ("needs", "b", "c"), ("excludes", "c", "b"), ("excludes", "a", "a"),
            ("needs", "a", "b"), ("needs", "b", "a"), ("excludes", "a", "b"), ("excludes", "b", "b")])
        self.same(list(common_clauses(THREE, [THREE])), [
            ("either", "c", "c"), ("needs", "c", "a"), ("needs", "a", "c"), ("either", "c", "a"),
            ("needs", "c", "b"), ("needs", "b", "c"), ("either", "c", "b"), ("either", "a", "a"),
            ("needs", "a", "b"), ("needs", "b", "a"), ("either", "a", "b"), ("either", "b", "b")])

    def test_one_name(self):
        self.same(list(common_clauses(("a",), [()])), [("excludes", "a", "a")])
        self.same(list(common_clauses(("a",), [("a",)])), [("either", "a", "a")])
        self.same(list(common_clauses(("a",), [(), ("a",)])), [])

    def test_all_states_have_nothing_in_common(self):
        for names in (("a",), ("b", "a"), THREE, TEN_NAMES):
            self.same(list(common_clauses(names, all_states(names))), [])

    def test_ten_names(self):
        states = [("b", "third"), ("b", "lastname"), ("b", "e", "f")]
        self.same(list(common_clauses(TEN_NAMES, states)), expected_common(TEN_NAMES, states))
        self.same(len(list(common_clauses(TEN_NAMES, [()]))), 10 + 45 * 3)

    def test_many_observations(self):
        for names, states in observations():
            self.same(list(common_clauses(names, states)), expected_common(names, states))


class LearnRulesTest(Case):
    def test_many_observations(self):
        for names, states in observations():
            rules = learn_rules(names, states)
            self.assertIs(type(rules), Rules)
            self.same(parts(rules), (names, expected_learned(names, states)))

    def test_all_states_give_rules_without_clauses(self):
        self.same(parts(learn_rules(TEN_NAMES, all_states(TEN_NAMES))), (TEN_NAMES, ()))

    def test_clauses_are_removed_from_the_last_one_on(self):
        # Each of three equal switches needs the two others; what ties the first one to them is left.
        self.same(learn_rules(("a", "b", "c"), [(), ("a", "b", "c")]).clauses,
                  (("needs", "a", "b"), ("needs", "b", "a"), ("needs", "a", "c"), ("needs", "c", "a")))

    def test_of_constants_only_the_first_one_is_learned_as_a_clause_with_one_switch_twice(self):
        # The last candidates are removed first, and those about single later switches follow from the other ones.
        self.same(learn_rules(("a", "b"), [("a",)]).clauses, (("either", "a", "a"), ("excludes", "a", "b")))
        others = TEN_NAMES[1:]
        self.same(learn_rules(TEN_NAMES, [()]).clauses,
                  (("excludes", "one", "one"),) + tuple(("needs", name, "one") for name in others))
        self.same(learn_rules(TEN_NAMES, [TEN_NAMES]).clauses,
                  (("either", "one", "one"),) + tuple(("needs", "one", name) for name in others))

    def test_all_legal_states_give_rules_with_these_legal_states(self):
        for rules in rules_with_pairs_of_clauses(("b", "c", "a"))[::3] + mixed_rules()[::3]:
            legal = expected_legal(rules)
            if legal:
                self.same(expected_legal(learn_rules(rules.names, legal)), legal)

    def test_forty_and_forty_one_clauses(self):
        pairs = list(itertools.combinations(TEN_NAMES, 2))
        for many in (39, 40, 41, 45):
            clauses = tuple(("excludes", first, second) for first, second in pairs[:many])
            # Pairs that nothing excludes are on in some state, so exactly these clauses are learned.
            states = [()] + [(name,) for name in TEN_NAMES] + pairs[many:]
            if many <= 40:
                self.same(learn_rules(TEN_NAMES, states).clauses, clauses)
            else:
                self.fails(TooManyClauses, {}, learn_rules, TEN_NAMES, states)
            self.same(list(common_clauses(TEN_NAMES, states)), list(clauses))
            self.same(len(list(closure(TEN_NAMES, states))) > len(TEN_NAMES), True)

    def test_more_than_forty_common_clauses_are_allowed(self):
        self.same(len(list(common_clauses(TEN_NAMES, [(), TEN_NAMES]))), 90)
        self.same(len(learn_rules(TEN_NAMES, [(), TEN_NAMES]).clauses), 18)


class ClosureTest(Case):
    def test_many_observations(self):
        for names, states in observations():
            self.same(list(closure(names, states)), expected_closure(names, states))

    def test_repeated_majorities(self):
        for names, states in observations():
            self.same(list(closure(names, states)), majorities(names, states))

    def test_one_or_two_states_are_closed(self):
        self.same(list(closure(TEN_NAMES, [("b", "d")])), [("b", "d")])
        self.same(list(closure(TEN_NAMES, [TEN_NAMES, ("b", "d"), ("b", "d")])), [("b", "d"), TEN_NAMES])

    def test_all_states(self):
        self.same(list(closure(TEN_NAMES, all_states(TEN_NAMES)[::-1])), all_states(TEN_NAMES))

    def test_ten_names(self):
        states = [("one", "b"), ("third", "d"), ("e", "f", "g"), ("one", "third", "e"), ("h", "i", "lastname")]
        self.same(list(closure(TEN_NAMES, states)), majorities(TEN_NAMES, states))


class ListsTest(Case):
    def test_neither_the_sequence_nor_repetitions_matter(self):
        states = [("c", "b"), ("a",), ("c", "a"), ()]
        for order in itertools.permutations(states):
            for observed in (list(order), list(order) + [order[0]]):
                self.same(list(common_clauses(THREE, observed)), list(common_clauses(THREE, states)))
                self.same(learn_rules(THREE, observed).clauses, learn_rules(THREE, states).clauses)
                self.same(list(closure(THREE, observed)), list(closure(THREE, states)))

    def test_the_list_is_not_modified(self):
        states = [("a", "b"), (), ("c",), ()]
        for call in CALLS.values():
            call(THREE, [("c",), ()])
            call(("c", "a", "b"), states)
        self.same(states, [("a", "b"), (), ("c",), ()])

    def test_the_list_is_not_kept(self):
        for generator in (common_clauses, closure):
            states = [(), ("a",), ("b",)]
            expected = list(generator(THREE, states))
            values = generator(THREE, states)
            first = next(values)
            states.clear()
            states.append(None)
            self.same([first] + list(values), expected)

    def test_generators_do_not_disturb_each_other(self):
        for generator in (common_clauses, closure):
            expected = list(generator(THREE, [(), ("c",), ("a",)]))
            one, other = generator(THREE, [(), ("c",), ("a",)]), generator(THREE, [(), ("c",), ("a",)])
            self.same([next(one), next(one), next(other)], expected[:2] + expected[:1])
            self.same([list(one), list(other)], [expected[2:], expected[1:]])

    def test_a_changed_list_changes_no_later_result(self):
        for generator in (common_clauses, closure):
            expected = list(generator(THREE, [("c",)]))
            list(generator(THREE, [("c",)])).clear()
            self.same(list(generator(THREE, [("c",)])), expected)


class ErrorsTest(Case):
    def everywhere(self, error, attributes, names, states):
        for name, call in CALLS.items():
            with self.subTest(name):
                self.fails(error, attributes, call, names, states)

    def test_wrong_names(self):
        for names, index in wrong_names():
            self.everywhere(InvalidRules, {"part": "names", "index": index}, names, [()])

    def test_wrong_names_come_before_wrong_states(self):
        for states in (None, [], [("b", "a")], [None]):
            self.everywhere(InvalidRules, {"part": "names", "index": 1}, ("a", "a"), states)

    def test_arguments_that_are_no_list(self):
        for value in VALUES_OF_ALL_KINDS:
            if not isinstance(value, list):
                self.everywhere(InvalidStates, {"index": 0}, ("a", "b"), value)
        self.everywhere(InvalidStates, {"index": 0}, ("a", "b"), ((), ("a",)))
        self.everywhere(InvalidStates, {"index": 0}, ("a", "b"), {(): True})

    def test_the_empty_list(self):
        self.everywhere(InvalidStates, {"index": 0}, ("a", "b"), [])

    def test_items_that_are_no_states(self):
        for value in VALUES_OF_ALL_KINDS:
            if value not in ((), ("a",)):
                self.everywhere(InvalidStates, {"index": 0}, ("a", "b"), [value])
                self.everywhere(InvalidStates, {"index": 2}, ("a", "b"), [("a", "b"), (), value, ("b",)])

    def test_states_with_a_wrong_item(self):
        for value in NO_NAMES + ("c", "ab"):
            self.everywhere(InvalidStates, {"index": 1}, ("a", "b"), [("b",), (value,)])
            self.everywhere(InvalidStates, {"index": 1}, ("a", "b"), [("b",), ("a", value)])

    def test_the_first_wrong_item_is_reported(self):
        self.everywhere(InvalidStates, {"index": 1}, ("a", "b"), [(), ("b", "a"), None, ("x",)])
        self.everywhere(InvalidStates, {"index": 1}, ("a", "b"), [(), ("a", "b", "b"), ("a", "b", "b")])

    def test_the_order_is_that_of_the_names_not_of_the_letters(self):
        self.everywhere(InvalidStates, {"index": 0}, THREE, [("a", "c")])
        self.same(list(closure(THREE, [("c", "a")])), [("c", "a")])

    def test_too_many_clauses_come_last(self):
        states = [()] + [(name,) for name in TEN_NAMES]
        self.fails(TooManyClauses, {}, learn_rules, TEN_NAMES, states)
        self.fails(InvalidStates, {"index": 11}, learn_rules, TEN_NAMES, states + [("b", "one")])
        self.fails(InvalidRules, {"part": "names", "index": 10}, learn_rules, TEN_NAMES + ("k",), states)

    def test_generators_check_when_the_first_value_is_requested(self):
        for generator in (common_clauses, closure):
            self.assertTrue(inspect.isgenerator(generator(None, None)))
            for names, states, error in ((None, [()], InvalidRules), (("a",), [], InvalidStates)):
                values = generator(names, states)
                with self.assertRaises(error):
                    next(values)


if __name__ == "__main__":
    unittest.main()
