"""Washing: the least washings by which no limit is reached in any order.

Washings are pairs (step, place). A lot of them is kept as bits: bit k stands for washing number k of a tuple.
"""

from plateways.reaching import harms
from plateways.works import has


def least_washings(kitchen, places):
    """All least sets of washings at these places by which no limit is reached in any order."""
    washings = sorted({(step.name, place) for step in kitchen.work.steps for place in step.places if place in places})
    enough, left = [], [0]
    # Both together are at any time the least lots that meet each of the sets found so far.
    while left:
        lot = left.pop()
        if is_enough(kitchen, washings, lot):
            enough.append(lot)
        else:
            needed = needed_beside(kitchen, washings, lot)
            left = meeting_lots(enough, [*left, lot], needed)
    found = [washings_of(washings, lot) for lot in enough]
    return tuple(sorted(found, key=lambda row: (len(row), row)))


def is_enough(kitchen, washings, lot):
    """Whether no limit is reached in any order with this lot of washings."""
    work = kitchen.work.washed(washings_of(washings, lot))
    return not harms(kitchen.with_work(work))


def washings_of(washings, lot):
    """The washings that these bits stand for."""
    return tuple([washing for at, washing in enumerate(washings) if has(lot, at)])


def needed_beside(kitchen, washings, lot):
    """A least set of washings, none of this lot, one of which is in each lot that is enough; 0 if no lot is."""
    # With as many others as can be added in vain, each one that is left would be enough: all that is harmful yet
    # goes by all of them.
    vain = lot
    for at in range(len(washings)):
        if not is_enough(kitchen, washings, vain | (1 << at)):
            vain = vain | (1 << at)
    return (1 << len(washings)) - 1 - vain


def meeting_lots(enough, left, needed):
    """The lots that are left; for those with none of the needed washings all that are wider by one of these, but for
    what holds another lot."""
    kept = [lot for lot in left if lot & needed]
    known = [*enough, *kept]
    found = list(kept)
    for lot in left:
        if not lot & needed:
            wider = [lot | (1 << at) for at in range(needed.bit_length()) if has(needed, at)]
            found.extend([more for more in wider if not any([less & more == less for less in known])])
    return found
