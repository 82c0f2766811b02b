"""Leasts: how much of a trace is enough at a place for a limit to be reached yet.

What is done is told as bits, as in the attribute heads of a work.
"""

from plateways.steps import leads_from
from plateways.works import all_done, can_be_next


def least_levels(work, limits):
    """For what is done a dict from (trace, place) to the least level by which one of these limits is reached yet in
    some order; what is not in it has none."""
    table = {}
    for done in reversed(all_done(work)):
        least = {}
        for at, step in enumerate(work.steps):
            if can_be_next(work, done, at):
                for key, level in least_ahead(step, limits, table[done | (1 << at)]).items():
                    least[key] = min(level, least.get(key, level))
        table[done] = least
    return table


def least_ahead(step, limits, behind):
    """The least levels ahead of the step, if these are the ones behind it."""
    found = [((trace, place), level) for trace, name, place, level in limits
             if name == step.name and leads_from(step, place)]
    for (trace, place), level in behind.items():
        if place not in step.places:
            found.append(((trace, place), level))
        found.extend([((trace, start), level + less) for start, end, less in step.arrows if end == place])
    least = {}
    for key, level in found:
        least[key] = min(level, least.get(key, level))
    return least
