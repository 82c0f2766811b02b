"""Comparing: whether what reaches the places of the limits is thicker in one kitchen than in another one."""

from plateways.errors import InvalidKitchen
from plateways.reaching import most_ahead, most_levels


def never_worse(p, q):
    """Whether no worst level of p is greater than that of q."""
    return worse(p, q) is None


def worse(p, q):
    """The number of the first limit with a worst level by p that is greater than by q, None if there is none."""
    for at, (one, other) in enumerate(both_levels(p, q)):
        if one > other:
            return at
    return None


def alike(p, q):
    """Whether both kitchens have the same worst levels."""
    return all([one == other for one, other in both_levels(p, q)])


def both_levels(p, q):
    """For each limit the worst levels by both kitchens; raises InvalidKitchen if the limits are not the same."""
    if p.limits != q.limits:
        raise InvalidKitchen("limits")
    return list(zip(worst_levels(p), worst_levels(q)))


def worst_levels(kitchen):
    """For each limit the greatest level of its trace at its place just ahead of its step in some order."""
    most = most_levels(kitchen)
    return [most_ahead(kitchen.work, most, trace, step, place)[0] for trace, step, place, _ in kitchen.limits]
