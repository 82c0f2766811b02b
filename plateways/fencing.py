"""Fencing: which pairs of steps, put in order, keep all limits from being reached."""

from itertools import combinations, permutations

from plateways.errors import InvalidWork
from plateways.reaching import harms


def is_fenced(kitchen, pairs):
    """Whether the work with these fences has an order yet, and no limit is reached in any."""
    try:
        work = kitchen.work.fenced(pairs)
    except InvalidWork:
        return False
    return not harms(kitchen.with_work(work))


def least_fences(kitchen):
    """All least sets of at most two fences with which no limit is reached in any order."""
    if is_fenced(kitchen, ()):
        return ((),)
    names = sorted(kitchen.work.names)
    pairs = list(permutations(names, 2))
    enough = [pair for pair in pairs if is_fenced(kitchen, (pair,))]
    others = [pair for pair in pairs if pair not in enough]
    twos = [two for two in combinations(others, 2) if is_fenced(kitchen, two)]
    return tuple([*[(pair,) for pair in enough], *twos])
