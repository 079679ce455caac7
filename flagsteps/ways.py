"""Ways: changes of one switch at a time that lead from a legal state to another one."""

from flagsteps.checks import check_switch, is_number
from flagsteps.errors import IllegalStep, NoWay
from flagsteps.states import check_legal, differing, switched


def _in_order(clause, start):
    """The switches of a clause in which start and goal differ, the one that is changed before the other one first."""
    word, first, second = clause
    # The start fulfils only one condition; its switch has to wait until the other condition is fulfilled.
    if (first in start) == (word == "either"):
        return second, first
    return first, second


def order_pairs(rules, start, goal):
    """The list of (clause, switch changed before, switch changed after) for all clauses that order switches."""
    check_legal(rules, start)
    check_legal(rules, goal)
    changed = differing(rules.names, start, goal)
    pairs = []
    for index, clause in enumerate(rules.clauses):
        _, first, second = clause
        if first != second and first in changed and second in changed:
            before, after = _in_order(clause, start)
            pairs.append((index, before, after))
    return pairs


def waiting(rules, start, goal):
    """A dict from each differing switch, in the order of the names, to the list of those that it has to wait for."""
    pairs = order_pairs(rules, start, goal)
    changed = differing(rules.names, start, goal)
    return {name: [before for _, before, after in pairs if after == name] for name in changed}


def possible_changes(waits, done):
    """The list of the switches, in the order of the names, that can be changed next after those that are done."""
    return [name for name in waits if name not in done and all([before in done for before in waits[name]])]


def _longest(waits):
    """The first way, or, if there is none, its changes as far as any are possible."""
    done = []
    possible = possible_changes(waits, done)
    while possible:
        done.append(possible[0])
        possible = possible_changes(waits, done)
    return done


def _circle(pairs, left):
    """The clauses of a circle among switches each of which waits for another one of them."""
    causes = {after: (clause, before) for clause, before, after in pairs if before in left}
    path = []
    name = left[0]
    while name not in path:
        path.append(name)
        name = causes[name][1]
    # The path leads from each switch to one that it waits for, so the clauses are in reverse order.
    around = path[path.index(name):]
    return tuple([causes[each][0] for each in reversed(around)])


def find_way(rules, start, goal):
    """The first way, a list of switches."""
    waits = waiting(rules, start, goal)
    way = _longest(waits)
    left = [name for name in waits if name not in way]
    if left:
        raise NoWay(_circle(order_pairs(rules, start, goal), left))
    return way


def is_circle(rules, start, goal, circle):
    """Whether the argument is a non-empty tuple of clauses that form a circle."""
    ordered = {clause: (before, after) for clause, before, after in order_pairs(rules, start, goal)}
    if not isinstance(circle, tuple) or len(circle) == 0:
        return False
    if not all([is_number(clause) and clause in ordered for clause in circle]):
        return False
    # At place 0, the place before is -1, the last one.
    return all([ordered[circle[at - 1]][1] == ordered[circle[at]][0] for at in range(len(circle))])


def _ways_from(waits, done):
    """Yield all ways that begin with the changes that are done."""
    if len(done) == len(waits):
        yield list(done)
    for name in possible_changes(waits, done):
        longer = done + (name,)
        yield from _ways_from(waits, longer)


def all_ways(rules, start, goal):
    """Yield all ways, compared change by change in the order of the names."""
    waits = waiting(rules, start, goal)
    # With a circle no beginning leads to a way, so none is tried.
    if len(_longest(waits)) == len(waits):
        yield from _ways_from(waits, ())


def count_ways(rules, start, goal):
    """The number of all ways."""
    waits = waiting(rules, start, goal)
    # What is possible depends only on which switches are done, so beginnings with the same ones are counted together.
    counts = {(): 1}
    for _ in waits:
        longer = {}
        for done, many in counts.items():
            for name in possible_changes(waits, done):
                together = tuple([each for each in waits if each == name or each in done])
                longer[together] = longer.get(together, 0) + many
        counts = longer
    return counts.get(tuple(waits), 0)


def must_precede(rules, start, goal, first, later):
    """Whether every way changes one switch before another one."""
    check_switch(rules.names, first)
    check_switch(rules.names, later)
    way = find_way(rules, start, goal)
    waits = waiting(rules, start, goal)
    # A switch comes after those that it waits for, so each switch of a way finds them decided already.
    after_first = [first]
    for name in way:
        if any([before in after_first for before in waits[name]]):
            after_first.append(name)
    return later in after_first[1:]


def states_on_way(rules, start, way):
    """Yield the state after each change of a list of switches."""
    check_legal(rules, start)
    state = start
    # The copy keeps the generator apart from later changes to the caller's list.
    for index, name in enumerate(list(way)):
        check_switch(rules.names, name)
        state = switched(rules.names, state, (name,))
        broken = rules.broken_clauses(state)
        if broken:
            raise IllegalStep(index, broken[0])
        yield state
