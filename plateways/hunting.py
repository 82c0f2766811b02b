"""Hunting: all ways by which a limit is reached in some order.

What is done is told as bits, as in the attribute heads of a work.
"""

from plateways.leasts import least_levels
from plateways.steps import leads_from
from plateways.works import can_be_next


class Hunt:
    """A limit of a work, and what is known of the ways that reach it."""

    def __init__(self, work, limit):
        self.work = work
        self.trace, self.last, self.place, self.level = limit
        self.least = least_levels(work, [limit])
        self.known = {}

    def hops_on(self, place, level, dones):
        """The hops of each way on to the limit, if the grain came to the place with this level when one of these was
        done."""
        # Ways that came here unlike go on alike, so this is found out once for all of them.
        key = (place, level, dones)
        if key not in self.known:
            waited = [done for done in waiting(self.work, place, dones) if self.is_enough(place, level, done)]
            self.known[key] = self.hops_found(place, level, waited)
        return self.known[key]

    def hops_found(self, place, level, dones):
        """The same, if the grain is at the place when one of these is done, and moves next."""
        found = [()] if self.is_reached(place, dones) else []
        for at, step in enumerate(self.work.steps):
            behind = dones_behind(self.work, dones, at)
            for start, end, less in step.arrows:
                if start == place and behind:
                    rests = self.hops_on(end, level - less, behind)
                    found.extend([((step.name, end), *rest) for rest in rests])
        return found

    def is_reached(self, place, dones):
        """Whether the limit is reached next, if its grain is at the place and one of these is done."""
        at = self.work.names.index(self.last)
        leads = place == self.place and leads_from(self.work.steps[at], place)
        return leads and len(dones_behind(self.work, dones, at)) > 0

    def is_enough(self, place, level, done):
        """Whether the limit is reached yet in some order by a grain of this level."""
        least = self.least[done].get((self.trace, place))
        return least is not None and level >= least


def waiting(work, place, dones):
    """What can be done while a grain lies at the place, if it came there when one of these was done, ascending."""
    found = {done: True for done in dones}
    left = list(found)
    while left:
        done = left.pop()
        for at, step in enumerate(work.steps):
            more = done | (1 << at)
            if place not in step.places and more not in found and can_be_next(work, done, at):
                found[more] = True
                left.append(more)
    return sorted(found)


def dones_behind(work, dones, at):
    """What can be done behind step number at, if it comes next when one of these is done."""
    return tuple([done | (1 << at) for done in dones if can_be_next(work, done, at)])
