"""Rounds, in which the order of the changes does not matter, and batches of changes at the same moment."""

from flagsteps.checks import check_switch
from flagsteps.groups import bound_groups
from flagsteps.states import check_legal, differing, switched
from flagsteps.ways import find_way, possible_changes, waiting


def find_rounds(rules, start, goal):
    """The fewest rounds from a start to a goal, with each switch in the earliest possible one."""
    many = len(find_way(rules, start, goal))
    waits = waiting(rules, start, goal)
    rounds = []
    done = []
    while len(done) < many:
        names = possible_changes(waits, done)
        rounds.append(names)
        done = done + names
    return rounds


def fewest_rounds(rules, start, goal):
    """The number of the fewest rounds."""
    return len(find_rounds(rules, start, goal))


def _round_with(rounds, name):
    """The number of the round that changes a switch."""
    return [name in names for names in rounds].index(True)


def round_range(rules, start, goal, name):
    """The earliest and the latest of the fewest rounds in which a switch can be changed; None if it is not changed."""
    check_switch(rules.names, name)
    forward = find_rounds(rules, start, goal)
    if name not in differing(rules.names, start, goal):
        return None
    # From the goal back to the start, all orders are reversed: what is early there is late here.
    backward = find_rounds(rules, goal, start)
    return _round_with(forward, name), len(forward) - 1 - _round_with(backward, name)


def _all_batches(rules, start, goal):
    """The list of the batches that change all differing switches, in the order of their first switches."""
    groups = [[name for name, _ in group] for group in bound_groups(rules)]
    with_first = {group[0]: group for group in groups}
    followers = [name for group in groups for name in group[1:]]
    # Switches that are bound to each other differ all or none.
    changed = differing(rules.names, start, goal)
    return [with_first.get(name, [name]) for name in changed if name not in followers]


def _is_possible(rules, state, batch):
    return rules.is_legal(switched(rules.names, state, batch))


def find_batches(rules, start, goal):
    """The list of batches from a start to a goal, each time the first possible one."""
    check_legal(rules, start)
    check_legal(rules, goal)
    left = _all_batches(rules, start, goal)
    state = start
    batches = []
    while left:
        batch = [each for each in left if _is_possible(rules, state, each)][0]
        batches.append(batch)
        state = switched(rules.names, state, batch)
        left = [each for each in left if each != batch]
    return batches


def least_batch(rules, start, goal):
    """How many switches must be changed at the same moment at least."""
    return max([len(batch) for batch in find_batches(rules, start, goal)], default=0)
