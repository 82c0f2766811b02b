"""Clean: orders in which no limit is reached.

A state is a pair: what is done, as bits, and a tuple of ((trace, place), level) for what can still reach a limit. What
comes behind two beginnings with the same state is the same.
"""

from plateways.cooking import levels_behind, levels_by_turns, reached, reached_by, steps_in_turn
from plateways.leasts import least_levels
from plateways.works import can_be_next


def many_clean(kitchen):
    """How many clean orders there are."""
    return many_without(kitchen, kitchen.limits)


def clean_order(kitchen):
    """The first clean order by the numbers of the steps, None if there is none."""
    state, paths = paths_behind(kitchen, kitchen.limits, ())
    counts = counts_of(kitchen.work, paths)
    if counts[state] == 0:
        return None
    order = []
    while paths[state]:
        at, state = [turn for turn in paths[state] if counts[turn[1]] > 0][0]
        order.append(kitchen.work.names[at])
    return tuple(order)


def clean_next(kitchen, beginning):
    """The names of all steps that can be next in clean orders that begin so."""
    return () if reached(kitchen, beginning) else next_without(kitchen, kitchen.limits, beginning)


def surely(kitchen):
    """The numbers of the limits that are reached in all orders."""
    return tuple([at for at, limit in enumerate(kitchen.limits) if many_without(kitchen, [limit]) == 0])


def many_without(kitchen, limits):
    """How many orders there are in which none of these limits is reached."""
    start, paths = paths_behind(kitchen, limits, ())
    return counts_of(kitchen.work, paths)[start]


def next_without(kitchen, limits, beginning):
    """The names of all steps that can be next so that none of these limits is reached from there on, in some order."""
    start, paths = paths_behind(kitchen, limits, beginning)
    counts = counts_of(kitchen.work, paths)
    return tuple([kitchen.work.names[at] for at, state in paths[start] if counts[state] > 0])


def paths_behind(kitchen, limits, beginning):
    """The state behind this beginning; and a dict from it, and each state that comes behind it without one of these
    limits being reached, to pairs: the number of a step that can be next so, and the state behind it."""
    least = least_levels(kitchen.work, limits)
    done = sum([1 << kitchen.work.names.index(name) for name in beginning])
    turns = levels_by_turns(kitchen, steps_in_turn(kitchen.work, beginning))
    start = state_of(least, done, turns[-1])
    paths = {}
    layer = [start]
    while layer:
        behind = {}
        for state in layer:
            paths[state] = turns_on(kitchen.work, limits, least, state)
            for _, more in paths[state]:
                behind[more] = True
        layer = list(behind)
    return start, paths


def state_of(least, done, now):
    """The state, if these are the levels and this is done."""
    held = [(key, level) for key, level in now.items() if level >= least[done].get(key, level + 1)]
    return done, tuple(sorted(held))


def turns_on(work, limits, least, state):
    """The steps that can be next without reaching a limit: pairs of a number and the state behind it."""
    done, held = state
    now = {key: level for key, level in held}
    turns = []
    for at, step in enumerate(work.steps):
        if can_be_next(work, done, at) and not reached_by(limits, step, now):
            turns.append((at, state_of(least, done | (1 << at), levels_behind(step, now))))
    return turns


def counts_of(work, paths):
    """For each state how many ways there are from it through the paths to the end of the work."""
    counts = {}
    for state in reversed(list(paths)):
        counts[state] = sum([counts[behind] for _, behind in paths[state]])
        if state[0] == (1 << len(work)) - 1:
            counts[state] = 1
    return counts
