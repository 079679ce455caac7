"""Point 1 for the whole program, and what the document says of several points together."""

import copy
import inspect
import itertools
import unittest

from flagsteps.codec import decode_rollout, encode_rollout, pack_bytes, unpack_bytes
from flagsteps.editing import Workbench
from flagsteps.errors import NoWay
from flagsteps.groups import bound_groups, constants, settings
from flagsteps.islands import count_islands, island_of, islands, same_island
from flagsteps.learning import (closure, common_clauses, first_difference, first_error, learn_rules,
                                redundant_clauses)
from flagsteps.notation import format_log, format_rules, parse_log, parse_rules
from flagsteps.rollout import Rollout
from flagsteps.rounds import fewest_rounds, find_batches, find_rounds, least_batch, round_range
from flagsteps.rules import Rules
from flagsteps.states import count_legal, legal_states, majority
from flagsteps.ways import all_ways, count_ways, find_way, is_circle, must_precede, order_pairs, states_on_way
from tests.helpers import (TEN_NAMES, Case, Mixer, all_states, cases, equal, expected_legal, expected_ways, flipped,
                           mixed_rules, opposite, parts, rules_with_pairs_of_clauses)

WORD_NAMES = ("switches", "on", "needs", "either", "excludes", "off")


def told(island):
    return [island.settings, island.first, island.size, island.states]


def worked(workbench):
    return [parts(workbench.present_rules), workbench.history, [parts(rules) for rules in workbench.versions()]]


def decoded(data):
    rules, state, changes = decode_rollout(data)
    return parts(rules), state, changes


def operations_on(rules):
    """Operations of each kind that can be executed on rules with at least two switches."""
    first, last = rules.names[0], rules.names[-1]
    return [("rename", first, "zz"), ("rename", "zz", first), ("remove_switch", last), ("add_switch", last),
            ("add_clause", ("either", first, last)), ("remove_clause", 0)]


def calls(rules, start, goal):
    """Calls of all functions of the package that answer without numbers of clauses; each can be made again and again."""
    names = rules.names
    pairs = list(itertools.product(names, repeat=2))
    legal = expected_legal(rules)
    log = [start, flipped(rules, start, names[:1]), goal]
    rollout = Rollout(rules, start, goal=goal)
    rollout.attempt(names[-1], names[-1])
    workbench = Workbench(rules)
    workbench.apply_all(operations_on(rules))
    island = island_of(rules, goal)
    return {
        "is_legal": lambda: [rules.is_legal(state) for state in all_states(names)],
        "legal_states": lambda: list(legal_states(rules)),
        "count_legal": lambda: count_legal(rules),
        "majority": lambda: majority(rules, start, goal, legal[-1]),
        "constants": lambda: constants(rules),
        "bound_groups": lambda: bound_groups(rules),
        "settings": lambda: settings(rules, start),
        "islands": lambda: [told(each) for each in islands(rules)],
        "count_islands": lambda: count_islands(rules),
        "island_of": lambda: told(island_of(rules, goal)),
        "states": lambda: island.states,
        "same_island": lambda: same_island(rules, start, goal),
        "find_way": lambda: find_way(rules, start, goal),
        "all_ways": lambda: list(all_ways(rules, start, goal)),
        "count_ways": lambda: count_ways(rules, start, goal),
        "must_precede": lambda: [must_precede(rules, start, goal, first, later) for first, later in pairs],
        "states_on_way": lambda: list(states_on_way(rules, start, find_way(rules, start, goal))),
        "find_rounds": lambda: find_rounds(rules, start, goal),
        "fewest_rounds": lambda: fewest_rounds(rules, start, goal),
        "round_range": lambda: [round_range(rules, start, goal, name) for name in names],
        "find_batches": lambda: find_batches(rules, start, goal),
        "least_batch": lambda: least_batch(rules, start, goal),
        "rollout": lambda: [rollout.state, rollout.target, rollout.history, rollout.remaining],
        "advance": lambda: Rollout(rules, start, goal=goal).advance(3),
        "resumed": lambda: Rollout.resumed(rules, start, find_way(rules, start, goal)[:1] * 2).history,
        "common_clauses": lambda: list(common_clauses(names, legal)),
        "learn_rules": lambda: parts(learn_rules(names, [start, goal, ()])),
        "closure": lambda: list(closure(names, [start, goal, names])),
        "first_difference": lambda: first_difference(rules, Rules.free(*names)),
        "first_error": lambda: first_error(rules, log),
        "parse_log": lambda: parse_log(rules, format_log(rules, legal)),
    }


def numbered_calls(rules, start, goal):
    """Calls whose answers depend on the sequence of the clauses."""
    workbench = Workbench(rules)
    workbench.apply_all(operations_on(rules))
    return {
        "broken_clauses": lambda: [rules.broken_clauses(state) for state in all_states(rules.names)],
        "order_pairs": lambda: order_pairs(rules, start, goal),
        "redundant_clauses": lambda: redundant_clauses(rules),
        "workbench": lambda: worked(workbench),
        "history": lambda: workbench.history,
        "apply_all": lambda: Workbench(rules).apply_all(operations_on(rules)),
        "replay": lambda: worked(Workbench.replay(rules, operations_on(rules))),
        "parse_rules": lambda: parts(parse_rules(format_rules(rules))),
        "decode_rollout": lambda: decoded(encode_rollout(rules, start, list(rules.names))),
    }


def answer(rules, start, goal, call):
    """What a call returns; of an error NoWay only that it has a circle, for it may be any one."""
    try:
        return call()
    except NoWay as error:
        return "circle" if is_circle(rules, start, goal, error.circle) else "no circle"


def answers(rules, start, goal):
    every = {**calls(rules, start, goal), **numbered_calls(rules, start, goal)}
    return {name: answer(rules, start, goal, call) for name, call in every.items()}


def renamed(value, names):
    """A value with each switch replaced by another one."""
    if isinstance(value, str):
        return names.get(value, value)
    if isinstance(value, dict):
        return {renamed(key, names): renamed(each, names) for key, each in value.items()}
    if isinstance(value, (list, tuple)):
        return type(value)(renamed(each, names) for each in value)
    return value


def spoil(value):
    """Change all lists and dicts of a value."""
    if isinstance(value, (list, tuple)):
        for each in value:
            spoil(each)
    elif isinstance(value, dict):
        spoil(list(value.values()))
        value["spoiled"] = None
    if isinstance(value, list):
        value.reverse()
        value.append("spoiled")


def chosen_cases():
    """Rules of several kinds, each with a start and a goal."""
    found = cases()[::5]
    bound = equal("one", "third") + opposite("b", "d") + (("either", "e", "e"), ("needs", "b", "one"))
    rules = Rules(TEN_NAMES[:6], bound)
    legal = expected_legal(rules)
    return found + [(rules, start, goal) for start, goal in itertools.product(legal[::2], legal[1::2])]


class CallsTest(Case):
    def test_equal_calls_return_equal_values(self):
        for rules, start, goal in chosen_cases()[::4]:
            again = Rules(tuple(list(rules.names)), tuple([tuple(list(clause)) for clause in rules.clauses]))
            self.same(answers(again, start, goal), answers(rules, start, goal))

    def test_callers_may_change_returned_lists_and_dicts(self):
        for rules, start, goal in chosen_cases()[::4]:
            for every in (calls(rules, start, goal), numbered_calls(rules, start, goal)):
                before = {name: copy.deepcopy(answer(rules, start, goal, call)) for name, call in every.items()}
                for name, call in every.items():
                    spoil(answer(rules, start, goal, call))
                    self.same(answer(rules, start, goal, call), before[name])
                self.same({name: answer(rules, start, goal, call) for name, call in every.items()}, before)

    def test_callers_may_change_lists_while_a_generator_is_used(self):
        rules = Rules(("a", "b", "c"), (("needs", "a", "b"),))
        values = all_ways(rules, (), ("a", "b", "c"))
        spoil(next(values))
        self.same(list(values), [["b", "c", "a"], ["c", "b", "a"]])
        values = islands(Rules(("a", "b"), equal("a", "b")))
        spoil(next(values).states)
        self.same([each.states for each in values], [[("a", "b")]])

    def test_bytes_and_texts_are_equal(self):
        for rules, start, goal in chosen_cases()[::4]:
            for _ in range(2):
                self.same(format_rules(rules), "\n".join(
                    [" ".join(("switches",) + rules.names)] + [" ".join(clause) for clause in rules.clauses]))
                self.same(format_log(rules, [start, goal]), "\n".join(
                    [" ".join(("on",) + start), " ".join(("on",) + goal)]))
                data = encode_rollout(rules, start, list(rules.names))
                self.same(pack_bytes(unpack_bytes(data)), data)

    def test_generators_look_at_nothing_before_the_first_value_is_requested(self):
        for generator in (legal_states(None), islands(None), all_ways(None, None, None),
                          states_on_way(None, None, None), common_clauses(None, None), closure(None, None),
                          Workbench(Rules.free("a")).versions()):
            self.assertTrue(inspect.isgenerator(generator))


class RenamedTest(Case):
    def check(self, rules, start, goal, names):
        other = dict(zip(rules.names, names))
        again = Rules(names[:len(rules.names)], tuple((word, other[first], other[second])
                                                      for word, first, second in rules.clauses))
        expected = renamed(answers(rules, start, goal), other)
        self.same(answers(again, renamed(start, other), renamed(goal, other)), expected)

    def test_names_in_another_order_of_the_letters(self):
        for rules, start, goal in chosen_cases():
            self.check(rules, start, goal, ("zebra", "y", "x", "m", "c", "a"))

    def test_names_that_are_words(self):
        for rules, start, goal in chosen_cases():
            self.check(rules, start, goal, WORD_NAMES)
            self.check(rules, start, goal, WORD_NAMES[::-1])

    def test_a_workbench_renames_accordingly(self):
        for rules, start, goal in chosen_cases()[::3]:
            other = dict(zip(rules.names, WORD_NAMES))
            workbench = Workbench(rules)
            workbench.apply_all([("rename", name, other[name]) for name in rules.names])
            again = workbench.present_rules
            self.same(answers(again, renamed(start, other), renamed(goal, other)),
                      renamed(answers(rules, start, goal), other))


class OtherSequenceTest(Case):
    def test_clauses_in_another_sequence(self):
        mixer = Mixer()
        for rules, start, goal in chosen_cases():
            order = list(range(len(rules.clauses)))
            for place in range(len(order)):
                other = mixer.below(len(order))
                order[place], order[other] = order[other], order[place]
            again = Rules(rules.names, tuple(rules.clauses[number] for number in order))
            expected, actual = calls(rules, start, goal), calls(again, start, goal)
            for name in expected:
                self.same([name, answer(again, start, goal, actual[name])],
                          [name, answer(rules, start, goal, expected[name])])
            self.same(sorted((order[clause], first, later) for clause, first, later in order_pairs(again, start, goal)),
                      order_pairs(rules, start, goal))
            self.same(sorted(order[clause] for clause in redundant_clauses(again)), redundant_clauses(rules))
            self.same(first_difference(rules, again), None)
            for state in all_states(rules.names):
                self.same(sorted(order[clause] for clause in again.broken_clauses(state)), rules.broken_clauses(state))

    def test_redundant_clauses_can_be_left_out(self):
        for rules, start, goal in chosen_cases():
            redundant = redundant_clauses(rules)
            if redundant:
                again = rules.without_clause(redundant[-1])
                self.same(first_difference(rules, again), None)
                expected, actual = calls(rules, start, goal), calls(again, start, goal)
                for name in ("legal_states", "constants", "bound_groups", "islands", "find_way", "all_ways",
                             "must_precede", "find_rounds", "round_range", "find_batches", "closure", "parse_log"):
                    self.same(answer(again, start, goal, actual[name]), answer(rules, start, goal, expected[name]))


class LearningTest(Case):
    def test_rules_learned_from_all_legal_states(self):
        for rules in rules_with_pairs_of_clauses(("b", "c", "a"))[::4] + mixed_rules()[::2]:
            legal = list(legal_states(rules))
            if legal:
                learned = learn_rules(rules.names, legal)
                self.same(list(legal_states(learned)), legal)
                self.same(list(closure(rules.names, legal)), legal)
                self.same([first_difference(rules, learned), first_difference(learned, rules)], [None, None])
                self.same(redundant_clauses(learned), [])

    def test_the_closure_is_what_repeated_majorities_give(self):
        mixer = Mixer()
        for many in range(40):
            names = TEN_NAMES[:3 + many % 3]
            free = Rules.free(*names)
            states = [mixer.one_of(all_states(names)) for _ in range(3 + many // 10)]
            found = list(states)
            for each in found:
                for one, other in itertools.combinations(list(found), 2):
                    state = majority(free, each, one, other)
                    if state not in found:
                        found.append(state)
            self.same(list(closure(names, states)), [state for state in all_states(names) if state in found])
            self.same(list(closure(names, found)), list(closure(names, states)))

    def test_rules_learned_from_observed_states_have_the_closure_as_legal_states(self):
        mixer = Mixer()
        for many in range(40):
            names = TEN_NAMES[:2 + many % 5]
            states = [mixer.one_of(all_states(names)) for _ in range(1 + many // 8)]
            learned = learn_rules(names, states)
            self.same(list(legal_states(learned)), list(closure(names, states)))
            every = Rules(names, tuple(list(common_clauses(names, states))[:40]))
            self.same([every.is_legal(state) for state in states], [True] * len(states))
            self.same(learn_rules(names, list(closure(names, states))).clauses, learned.clauses)


class StoredTest(Case):
    def test_texts_and_bytes_lead_back_to_rules_states_and_changes(self):
        for rules, start, goal in chosen_cases():
            legal = list(legal_states(rules))
            changes = [name for name in rules.names if (name in start) != (name in goal)] * 2
            self.same(parts(parse_rules(format_rules(rules))), parts(rules))
            self.same(parse_log(rules, format_log(rules, legal)), legal)
            self.same(parse_log(parse_rules(format_rules(rules)), format_log(rules, [goal, start])), [goal, start])
            self.same(decoded(encode_rollout(rules, start, changes)), (parts(rules), start, changes))

    def test_a_stored_rollout_can_be_resumed(self):
        for rules, start, goal in chosen_cases():
            if expected_ways(rules, start, goal):
                rollout = Rollout(rules, start, goal=goal)
                rollout.advance(2)
                again = Rollout.resumed(*decode_rollout(encode_rollout(rules, start, rollout.history)), goal=goal)
                self.same([again.state, again.history, again.remaining, again.advance(9)],
                          [rollout.state, rollout.history, rollout.remaining, rollout.advance(9)])
                self.same([again.state, rollout.state], [goal, goal])

    def test_a_stored_workbench_can_be_replayed(self):
        for rules, _, _ in chosen_cases()[::3]:
            workbench = Workbench(rules)
            workbench.apply_all(operations_on(rules))
            again = Workbench.replay(parse_rules(format_rules(rules)), workbench.history)
            self.same(worked(again), worked(workbench))


class LogsTest(Case):
    def test_the_changes_of_a_way_made_by_a_rollout_are_a_log_without_an_error(self):
        ways = 0
        for rules, start, goal in chosen_cases():
            for way in list(all_ways(rules, start, goal))[:5]:
                rollout = Rollout(rules, start)
                log = [rollout.state] + [rollout.change(name) for name in way]
                self.same([log[-1], first_error(rules, log), parse_log(rules, format_log(rules, log))],
                          [goal, None, log])
                self.same(log[1:], list(states_on_way(rules, start, way)))
                self.same(first_error(rules, log + [log[-1]]), len(log))
                ways += len(way) > 1
        self.assertLess(50, ways)

    def test_rollouts_that_go_to_and_fro(self):
        for rules, start, goal in chosen_cases():
            rollout = Rollout(rules, start, goal=goal)
            log = [start]
            for _ in range(6):
                for name in rules.names:
                    if rollout.attempt(name):
                        log.append(rollout.state)
                if rollout.undo():
                    log.append(rollout.state)
            self.same(first_error(rules, log), None)

    def test_the_last_state_of_a_log_is_on_the_island_of_the_first_one(self):
        for rules, start, goal in chosen_cases():
            rollout = Rollout(rules, start)
            for name in rules.names + rules.names[::-1]:
                rollout.attempt(name)
            self.same(same_island(rules, start, rollout.state), True)
            self.same(same_island(rules, start, goal), len(list(all_ways(rules, start, goal))) > 0)


if __name__ == "__main__":
    unittest.main()
