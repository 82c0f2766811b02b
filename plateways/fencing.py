"""Fencing: which pairs of steps, put in order, keep all limits from being reached."""

from itertools import combinations, permutations

from plateways.errors import InvalidWork
from plateways.numbering import Orders
from plateways.reaching import harms


def is_fenced(kitchen, pairs):
    """Whether the work with these fences has an order yet, and no limit is reached in any."""
    try:
        work = kitchen.work.fenced(pairs)
    except InvalidWork:
        return False
    return not harms(kitchen.with_work(work))


def least_fences(kitchen):
    """All least sets of at most two fences with which no limit is reached in any order."""
    if not harms(kitchen):
        return ((),)
    orders = Orders(kitchen.work)
    harmful = orders.whole() ^ orders.clean(kitchen, kitchen.limits)
    # What a set of fences leaves are just the orders that each of them leaves, so no work is fenced to find it out.
    lots = orders.by_pairs()
    names = sorted(kitchen.work.names)
    pairs = list(permutations(names, 2))
    enough = [pair for pair in pairs if is_harmless(lots[pair], harmful)]
    others = [pair for pair in pairs if pair not in enough]
    twos = [two for two in combinations(others, 2) if is_harmless(lots[two[0]] & lots[two[1]], harmful)]
    return tuple([*[(pair,) for pair in enough], *twos])


def is_harmless(lot, harmful):
    """Whether there are orders in the lot, and none of the harmful ones."""
    return lot != 0 and lot & harmful == 0
