"""Ways: how a grain goes from place to place by steps, and whether it can in some order."""

from plateways.closing import closed_heads
from plateways.hops import check_way, loss_of, row_of
from plateways.works import has, has_ring


def loss(work, way):
    """The sum of the losses of the arrows of the way."""
    check_way(work, way)
    return loss_of(work, way)


def closed(work, way, last=None):
    """All pairs (one, other) so that the one stands ahead of the other by the rules if the way happens."""
    check_way(work, way, last)
    pairs = []
    for other, head in zip(work.names, closed_heads(work, way, last)):
        pairs.extend([(one, other) for at, one in enumerate(work.names) if has(head, at)])
    return tuple(sorted(pairs))


def can_happen(work, way, last=None):
    """Whether the way happens in some order."""
    check_way(work, way, last)
    return not has_ring(closed_heads(work, way, last))


def order_of(work, way, last=None):
    """Some order in which the way happens, None if there is none."""
    check_way(work, way, last)
    heads = closed_heads(work, way, last)
    if has_ring(heads):
        return None
    row = [work.names.index(name) for name in row_of(way, last)]
    return tuple([work.names[at] for at in taken_in_turn(heads, row)])


def taken_in_turn(heads, row):
    """All steps: for each one of the row what stands ahead of it and is not taken yet, then itself; then the rest."""
    # What stands ahead of a step has fewer heads than the step, as the heads are joined and have no ring.
    ranked = sorted(range(len(heads)), key=lambda at: many_in(heads[at]))
    taken = []
    for at in [*row, *ranked]:
        group = heads[at] | (1 << at)
        taken = [*taken, *[one for one in ranked if has(group, one) and one not in taken]]
    return taken


def many_in(head):
    """How many steps these bits stand for."""
    return sum([1 for at in range(head.bit_length()) if has(head, at)])
