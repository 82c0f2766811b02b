"""Papers: rows that show that a limit is reached in no order.

A row (way, is_last, lines) tells that a way can't happen, by a reason, or has no lines. Then all ways that are
longer by one hop have rows of their own. With is_last the limit's step stands behind the way.
"""

from plateways.hops import can_be_last, loss_of, places_of, row_of, wrong_thing
from plateways.hunting import dones_behind, waiting
from plateways.kitchens import limit_of
from plateways.reaching import harms
from plateways.reasons import reason, reason_holds
from plateways.steps import leads_from


def paper(kitchen, at):
    """Some right paper for this limit, None if it is reached in some order."""
    limit = limit_of(kitchen.limits, at)
    if at in harms(kitchen):
        return None
    work = kitchen.work
    rows = []
    # With each way stands all that can be done behind it; there is nothing for a way that can't happen.
    left = [(way, level, (0,)) for way, level in first_ways(kitchen, limit)]
    while left:
        way, level, dones = left.pop()
        rows.append((way, False, () if dones else reason(work, way)))
        if dones:
            if can_reach(work, limit, way):
                rows.append((way, True, reason(work, way, limit[1])))
            waited = waiting(work, places_of(way)[-1], dones)
            for longer, rest in longer_ways(work, limit, way, level):
                left.append((longer, rest, dones_behind(work, waited, work.names.index(longer[-1][0]))))
    return tuple(rows)


def paper_holds(kitchen, at, value):
    """Whether any value is a right paper for this limit."""
    limit = limit_of(kitchen.limits, at)
    if not isinstance(value, tuple):
        return False
    for row in value:
        if not is_row(kitchen.work, limit[1], row):
            return False
    told = {(row[0], row[1]): True for row in value}
    needed = [(way, False) for way, _ in first_ways(kitchen, limit)]
    for way, _, lines in value:
        if not lines:
            needed.extend(rows_behind(kitchen, limit, way))
    return all([row in told for row in needed])


def is_row(work, last, value):
    """Whether any value is a row whose lines, if there are any, are a reason."""
    if not isinstance(value, tuple) or len(value) != 3:
        return False
    way, is_last, lines = value
    if wrong_thing(work, way) is not None or not isinstance(is_last, bool) or not isinstance(lines, tuple):
        return False
    if is_last:
        return can_be_last(work, way, last) and reason_holds(work, way, last, lines)
    return len(lines) == 0 or reason_holds(work, way, None, lines)


def rows_behind(kitchen, limit, way):
    """The ways, with is_last, of all rows that there must be if there is one of this way without lines."""
    level = level_of(kitchen, limit, way)
    if level < limit[3]:
        return []
    rows = [(longer, False) for longer, _ in longer_ways(kitchen.work, limit, way, level)]
    return [*rows, (way, True)] if can_reach(kitchen.work, limit, way) else rows


def first_ways(kitchen, limit):
    """The ways without hops, and their levels, from all places where the trace is at first with the limit's level."""
    return [((place,), level) for trace, place, level in kitchen.traces if trace == limit[0] and level >= limit[3]]


def longer_ways(work, limit, way, level):
    """The ways that are longer by one hop than a way of this level, and their levels, if it is still the limit's."""
    place = places_of(way)[-1]
    names = row_of(way, None)
    found = []
    for step in work.steps:
        if step.name not in names:
            found.extend([((*way, (step.name, end)), level - less) for start, end, less in step.arrows
                          if start == place and level - less >= limit[3]])
    return found


def level_of(kitchen, limit, way):
    """The level of the limit's trace at first at the first place, less the loss of the way."""
    at_first = [level for trace, place, level in kitchen.traces if trace == limit[0] and place == way[0]]
    return sum(at_first) - loss_of(kitchen.work, way)


def can_reach(work, limit, way):
    """Whether the limit's step is none of the way's, and leads on from its end, which is the limit's place."""
    at_place = limit[1] not in row_of(way, None) and places_of(way)[-1] == limit[2]
    return at_place and leads_from(work.step(limit[1]), limit[2])
