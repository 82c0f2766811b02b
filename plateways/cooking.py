"""Cooking: the levels of the traces behind a beginning of the work, and what was reached in it.

Levels are a dict from (trace, place) to the level there; what is not in it has level 0.
"""

from plateways.basics import is_sequence
from plateways.errors import InvalidRow
from plateways.works import first_wrong


def levels(kitchen, beginning):
    """All traces, their places and their levels behind these steps."""
    now = levels_by_turns(kitchen, beginning)[-1]
    return tuple(sorted([(trace, place, level) for (trace, place), level in now.items()]))


def reached(kitchen, beginning):
    """The numbers of the limits that were reached in these steps."""
    turns = levels_by_turns(kitchen, beginning)
    found = {}
    for name, now in zip(beginning, turns):
        for at in reached_by(kitchen, name, now):
            found[at] = True
    return tuple(sorted(found))


def met(kitchen, beginning):
    """All pairs of traces that were at one place at the same time, with the place."""
    traces = sorted({trace[0] for trace in kitchen.traces})
    found = {}
    for now in levels_by_turns(kitchen, beginning):
        for one, place in now:
            for other in traces:
                if one < other and (other, place) in now:
                    found[one, other, place] = True
    return tuple(sorted(found))


def levels_by_turns(kitchen, beginning):
    """The levels at first, then those behind each of these steps."""
    check_beginning(kitchen.work, beginning)
    turns = [levels_at_first(kitchen)]
    for name in beginning:
        turns.append(levels_behind(kitchen.work.step(name), turns[-1]))
    return turns


def check_beginning(work, value):
    """Raises InvalidRow if any value is no sequence of steps that can be done in turn."""
    if not is_sequence(value):
        raise InvalidRow(0)
    at = first_wrong(work, value)
    if at is not None:
        raise InvalidRow(at)


def levels_at_first(kitchen):
    """The levels ahead of all steps."""
    return {(trace, place): level for trace, place, level in kitchen.traces}


def levels_behind(step, now):
    """The levels behind the step, if these are the levels ahead of it."""
    behind = {}
    for (trace, place), level in now.items():
        if place not in step.places:
            behind[trace, place] = level
        for start, end, less in step.arrows:
            if start == place and level - less > behind.get((trace, end), 0):
                behind[trace, end] = level - less
    return behind


def reached_by(kitchen, name, now):
    """The numbers of the limits that are reached by this step, if these are the levels ahead of it."""
    starts = [arrow[0] for arrow in kitchen.work.step(name).arrows]
    found = []
    for at, (trace, step, place, level) in enumerate(kitchen.limits):
        if step == name and place in starts and now.get((trace, place), 0) >= level:
            found.append(at)
    return found
