"""Closing: which steps must stand ahead of which if a way happens.

What stands ahead of each step is kept as bits, as in the attribute heads of a work.
"""

from plateways.hops import handovers, row_of
from plateways.works import has, joined


def closed_heads(work, way, last):
    """For each step what stands ahead of it by all the rules if the way happens."""
    heads = joined(heads_at_first(work, way, last))
    gaps = gaps_of(work, way, last)
    while True:
        wider = joined(without_touching(heads, gaps))
        if wider == heads:
            return heads
        heads = wider


def heads_at_first(work, way, last):
    """For each step what stands ahead of it by the work, or as the way tells by itself."""
    heads = list(work.heads)
    row = [work.names.index(name) for name in row_of(way, last)]
    for one, other in zip(row, row[1:]):
        heads[other] = heads[other] | (1 << one)
    if row:
        others = others_touching(work, way[0], [work.names[row[0]]])
        heads = [head | (1 << row[0]) if has(others, at) else head for at, head in enumerate(heads)]
    return heads


def gaps_of(work, way, last):
    """For neighbouring steps of the way their numbers, and as bits the others that touch the place between."""
    gaps = []
    for one, other, place in handovers(way, last):
        others = others_touching(work, place, [one, other])
        gaps.append((work.names.index(one), work.names.index(other), others))
    return gaps


def others_touching(work, place, names):
    """The steps that touch this place, but for those of these names, as bits."""
    return sum([1 << at for at, step in enumerate(work.steps) if place in step.places and step.name not in names])


def without_touching(heads, gaps):
    """The heads, with those by which no other step touches a place between neighbours of the way."""
    wider = list(heads)
    for giver, taker, others in gaps:
        wider[giver] = wider[giver] | (wider[taker] & others)
        for at in range(len(wider)):
            if has(others, at) and has(wider[at], giver):
                wider[at] = wider[at] | (1 << taker)
    return wider
