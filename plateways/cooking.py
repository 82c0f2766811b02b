"""Cooking: the levels of the traces behind a beginning of the work, and what was reached in it.

Levels are a dict from (trace, place) to the level there; what is not in it has level 0. Where a kitchen is only asked
for its traces and limits, it may be a book, too.
"""

from plateways.basics import is_sequence
from plateways.errors import InvalidRow
from plateways.steps import leads_from
from plateways.works import first_wrong


def levels(kitchen, beginning):
    """All traces, their places and their levels behind these steps."""
    return levels_told(levels_by_turns(kitchen, steps_in_turn(kitchen.work, beginning))[-1])


def reached(kitchen, beginning):
    """The numbers of the limits that were reached in these steps."""
    return reached_from(kitchen, steps_in_turn(kitchen.work, beginning), 0)


def met(kitchen, beginning):
    """All pairs of traces that were at one place at the same time, with the place."""
    traces = sorted({trace[0] for trace in kitchen.traces})
    found = {}
    for now in levels_by_turns(kitchen, steps_in_turn(kitchen.work, beginning)):
        for one, place in now:
            for other in traces:
                if one < other and (other, place) in now:
                    found[one, other, place] = True
    return tuple(sorted(found))


def steps_in_turn(work, value):
    """The steps that any value names; raises InvalidRow if it is no sequence of steps that can be done in turn."""
    if not is_sequence(value):
        raise InvalidRow(0)
    at = first_wrong(work, value)
    if at is not None:
        raise InvalidRow(at)
    return [work.step(name) for name in value]


def levels_told(now):
    """All traces, their places and their levels, ascending."""
    return tuple(sorted([(trace, place, level) for (trace, place), level in now.items()]))


def levels_by_turns(kitchen, steps):
    """The levels at first, then those behind each of these steps."""
    turns = [levels_at_first(kitchen)]
    for step in steps:
        turns.append(levels_behind(step, turns[-1]))
    return turns


def levels_at_first(kitchen):
    """The levels ahead of all steps."""
    return {(trace, place): level for trace, place, level in kitchen.traces}


def levels_behind(step, now):
    """The levels behind the step, if these are the levels ahead of it."""
    behind = {}
    for (trace, place), level in now.items():
        if place not in step.places:
            behind[trace, place] = level
        for start, end, less in step.arrows:
            if start == place and level - less > behind.get((trace, end), 0):
                behind[trace, end] = level - less
    return behind


def reached_from(kitchen, steps, first):
    """The numbers of the limits that are reached in these steps, from step number first on."""
    turns = levels_by_turns(kitchen, steps)
    found = {}
    for step, now in list(zip(steps, turns))[first:]:
        for at in reached_by(kitchen.limits, step, now):
            found[at] = True
    return tuple(sorted(found))


def reached_by(limits, step, now):
    """The numbers of the limits that are reached by this step, if these are the levels ahead of it."""
    found = []
    for at, (trace, name, place, level) in enumerate(limits):
        if step.name == name and now.get((trace, place), 0) >= level and leads_from(step, place):
            found.append(at)
    return found
