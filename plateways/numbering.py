"""Numbering: the orders of a work are numbered, and a lot of them is kept as bits: bit k stands for order number k.

What is done is told as bits, too, as in the attribute heads of a work.
"""

from plateways.clean import paths_behind
from plateways.works import all_done, can_be_next


class Orders:
    """All orders of a work, numbered as they ascend by the numbers of their steps.

    For what is done, shifts tells for each step that can be next how many orders of the rest come ahead of all that
    begin with it, and counts how many there are in all. So the number of an order is the sum of its shifts.
    """

    def __init__(self, work):
        self.work = work
        self.shifts = {}
        self.counts = {}
        for done in reversed(all_done(work)):
            shifts, many = {}, 0
            for at in range(len(work)):
                if can_be_next(work, done, at):
                    shifts[at] = many
                    many = many + self.counts[done | (1 << at)]
            self.shifts[done] = shifts
            self.counts[done] = many if shifts else 1

    def whole(self):
        """The lot of all orders."""
        return (1 << self.counts[0]) - 1

    def by_pairs(self):
        """For each pair (one, other) of names of steps the lot of the orders in which the one stands ahead."""
        names = self.work.names
        lots = {(one, other): 0 for one in names for other in names if one != other}
        firsts = {0: 1}
        for done in reversed(list(self.shifts)):
            for at, shift in self.shifts[done].items():
                more = done | (1 << at)
                begun = firsts[done] << shift
                firsts[more] = firsts.get(more, 0) | begun
                # Orders that begin alike have neighbouring numbers: so many ones from the first one on.
                lot = begun * ((1 << self.counts[more]) - 1)
                for other in [names[number] for number in range(len(names)) if not (more >> number) & 1]:
                    lots[names[at], other] = lots[names[at], other] | lot
        return lots

    def clean(self, kitchen, limits):
        """The lot of the orders of a kitchen with this work in which none of these limits is reached."""
        start, paths = paths_behind(kitchen, limits, ())
        lots = {}
        for state in reversed(list(paths)):
            done = state[0]
            # All that a step can be followed by stands apart from what other steps can, so the sum joins the lots.
            lots[state] = sum([lots[behind] << self.shifts[done][at] for at, behind in paths[state]])
            if not self.shifts[done]:
                lots[state] = 1
        return lots[start]
