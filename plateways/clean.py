"""Clean: orders in which no limit is reached.

A state is a pair: what is done, as bits, and a tuple of ((trace, place), level) for what can still reach a limit. What
comes behind two beginnings with the same state is the same.
"""

from plateways.cooking import levels_behind, levels_by_turns, reached, reached_by
from plateways.kitchens import Kitchen
from plateways.leasts import least_levels
from plateways.works import can_be_next


def many_clean(kitchen):
    """How many clean orders there are."""
    start, paths = paths_behind(kitchen, ())
    return counts_of(kitchen.work, paths)[start]


def clean_order(kitchen):
    """The first clean order by the numbers of the steps, None if there is none."""
    state, paths = paths_behind(kitchen, ())
    counts = counts_of(kitchen.work, paths)
    if counts[state] == 0:
        return None
    order = []
    while paths[state]:
        at, state = [turn for turn in paths[state] if counts[turn[1]] > 0][0]
        order.append(kitchen.work.names[at])
    return tuple(order)


def clean_next(kitchen, beginning):
    """The names of all steps that can be next in clean orders that begin so."""
    if reached(kitchen, beginning):
        return ()
    start, paths = paths_behind(kitchen, beginning)
    counts = counts_of(kitchen.work, paths)
    return tuple([kitchen.work.names[at] for at, state in paths[start] if counts[state] > 0])


def surely(kitchen):
    """The numbers of the limits that are reached in all orders."""
    found = []
    for at, limit in enumerate(kitchen.limits):
        if many_clean(Kitchen(kitchen.work, kitchen.traces, [limit])) == 0:
            found.append(at)
    return tuple(found)


def paths_behind(kitchen, beginning):
    """The state behind this beginning; and a dict from it, and each state that comes behind it without a limit that is
    reached, to pairs: the number of a step that can be next so, and the state behind it."""
    least = least_levels(kitchen.work, kitchen.limits)
    done = sum([1 << kitchen.work.names.index(name) for name in beginning])
    start = state_of(least, done, levels_by_turns(kitchen, beginning)[-1])
    paths = {}
    layer = [start]
    while layer:
        behind = {}
        for state in layer:
            paths[state] = turns_on(kitchen, least, state)
            for _, more in paths[state]:
                behind[more] = True
        layer = list(behind)
    return start, paths


def state_of(least, done, now):
    """The state, if these are the levels and this is done."""
    held = [(key, level) for key, level in now.items() if level >= least[done].get(key, level + 1)]
    return done, tuple(sorted(held))


def turns_on(kitchen, least, state):
    """The steps that can be next without reaching a limit: pairs of a number and the state behind it."""
    done, held = state
    now = {key: level for key, level in held}
    turns = []
    for at, step in enumerate(kitchen.work.steps):
        if can_be_next(kitchen.work, done, at) and not reached_by(kitchen, step.name, now):
            turns.append((at, state_of(least, done | (1 << at), levels_behind(step, now))))
    return turns


def counts_of(work, paths):
    """For each state how many ways there are from it through the paths to the end of the work."""
    counts = {}
    for state in reversed(list(paths)):
        counts[state] = sum([counts[behind] for _, behind in paths[state]])
        if state[0] == (1 << len(work)) - 1:
            counts[state] = 1
    return counts
