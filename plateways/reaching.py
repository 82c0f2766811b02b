"""Reaching: to what levels traces come in any of the orders, by which ways, and which limits they reach.

What is done is told as bits, as in the attribute heads of a work.
"""

from plateways.cooking import levels_at_first, levels_behind
from plateways.errors import NoPlace
from plateways.hunting import Hunt
from plateways.kitchens import limit_of
from plateways.steps import leads_from
from plateways.works import all_done, can_be_next, has


def worst(kitchen, trace, step, place):
    """The greatest level that the trace has at the place just ahead of the step in some order."""
    check_place(kitchen.work, step, place)
    return most_ahead(kitchen.work, most_levels(kitchen), trace, step, place)[0]


def worst_way(kitchen, trace, step, place):
    """Some way with this last step that leaves this level in some order, None if the level is 0."""
    check_place(kitchen.work, step, place)
    most = most_levels(kitchen)
    level, done = most_ahead(kitchen.work, most, trace, step, place)
    return None if level == 0 else way_back(kitchen.work, most, trace, done, place)


def harms(kitchen):
    """The numbers of the limits that are reached in some order."""
    most = most_levels(kitchen)
    return tuple([at for at, limit in enumerate(kitchen.limits) if is_reached(kitchen.work, most, limit)])


def harmful_ways(kitchen, at):
    """All ways by which this limit is reached in some order."""
    hunt = Hunt(kitchen.work, limit_of(kitchen.limits, at))
    ways = []
    for trace, place, level in kitchen.traces:
        if trace == hunt.trace:
            ways.extend([(place, *hops) for hops in hunt.hops_on(place, level, (0,))])
    return tuple(sorted(ways))


def check_place(work, name, place):
    """Raises NoStep if the work has no step of this name, NoPlace if the step does not touch the place."""
    if place not in work.step(name).places:
        raise NoPlace(place)


def most_levels(kitchen):
    """For what is done a dict from (trace, place) to the greatest level there, by some order of it."""
    work = kitchen.work
    table = {0: levels_at_first(kitchen)}
    for done in all_done(work):
        for at, step in enumerate(work.steps):
            if can_be_next(work, done, at):
                more = done | (1 << at)
                table[more] = higher(table.get(more, {}), levels_behind(step, table[done]))
    return table


def higher(one, other):
    """The greater one of both levels, wherever there is one."""
    best = {key: level for key, level in one.items()}
    for key, level in other.items():
        best[key] = max(level, best.get(key, level))
    return best


def most_ahead(work, most, trace, name, place):
    """The greatest level of the trace at the place just ahead of the step, and what is done then."""
    at = work.names.index(name)
    return max([(now.get((trace, place), 0), done) for done, now in most.items() if can_be_next(work, done, at)])


def is_reached(work, most, limit):
    """Whether the limit is reached in some order."""
    trace, name, place, level = limit
    return leads_from(work.step(name), place) and most_ahead(work, most, trace, name, place)[0] >= level


def way_back(work, most, trace, done, place):
    """A way by which the trace has come to the place with its greatest level when this is done."""
    hops = []
    while done:
        at, start = turn_back(work, most, trace, done, place)
        if place in work.steps[at].places:
            hops = [(work.names[at], place), *hops]
        done = done ^ (1 << at)
        place = start
    return (place, *hops)


def turn_back(work, most, trace, done, place):
    """The number of a step that can be the latest one, and the place where the trace was ahead of it."""
    level = most[done][trace, place]
    found = []
    for at, step in enumerate(work.steps):
        earlier = done ^ (1 << at)
        if has(done, at) and earlier in most:
            found.extend([(at, start) for start, less in sources(step, place)
                          if most[earlier].get((trace, start)) == level + less])
    return found[0]


def sources(step, place):
    """From where a trace comes to the place by the step, with what loss."""
    if place not in step.places:
        return [(place, 0)]
    return [(start, less) for start, end, less in step.arrows if end == place]
