"""Hops: what is a way of a work, and which of its steps hand the grain on where."""

from plateways.basics import is_name
from plateways.errors import InvalidWay


def check_way(work, way, last=None):
    """Raises InvalidWay if any values are no way of the work and no last step of it."""
    at = wrong_thing(work, way)
    if at is not None:
        raise InvalidWay(at)
    if last is not None and not can_be_last(work, way, last):
        raise InvalidWay(len(way))


def wrong_thing(work, way):
    """The index of the first thing in any value by which it is no way of the work; None if it is one."""
    if not isinstance(way, tuple) or not way or not is_name(way[0]):
        return 0
    place = way[0]
    names = []
    for at, hop in enumerate(way[1:], start=1):
        if not is_hop(work, place, hop) or hop[0] in names:
            return at
        names.append(hop[0])
        place = hop[1]
    return None


def is_hop(work, place, value):
    """Whether any value is a step of the work and a place to which it leads from this place."""
    if not isinstance(value, tuple) or len(value) != 2 or value[0] not in work.names:
        return False
    return work.step(value[0]).loss(place, value[1]) is not None


def can_be_last(work, way, value):
    """Whether any value is a step that touches the last place of the way, and stands in no hop."""
    if value not in work.names or value in row_of(way, None):
        return False
    return places_of(way)[-1] in work.step(value).places


def row_of(way, last):
    """The names of the steps of a way in turn, with the last one if there is one."""
    names = [name for name, _ in way[1:]]
    return names if last is None else [*names, last]


def places_of(way):
    """The places of a way in turn."""
    return [way[0], *[place for _, place in way[1:]]]


def handovers(way, last):
    """For neighbouring steps of a way: the one that brings the grain, the one that takes it on, and the place."""
    row = row_of(way, last)
    return list(zip(row, row[1:], places_of(way)[1:]))


def loss_of(work, way):
    """The sum of the losses of the arrows of a way."""
    total = 0
    for (name, end), start in zip(way[1:], places_of(way)):
        total += work.step(name).loss(start, end)
    return total
