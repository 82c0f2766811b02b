"""Together: whether several ways happen in one order.

What is done is told as bits, as in the attribute heads of a work. The place where the grain of a way lies is
guarded: no step touches it but the one that takes the grain on.
"""

from plateways.errors import InvalidWay
from plateways.hops import check_way, places_of, row_of
from plateways.works import can_be_next, has


class Bundle:
    """Several ways of a work: the numbers of the steps of each, with the last one, and its places."""

    def __init__(self, work, several):
        self.work = work
        self.rows = [tuple([work.names.index(name) for name in row_of(way, last)]) for way, last in several]
        self.spots = [places_of(way) for way, _ in several]
        self.ours = sorted({at for row in self.rows for at in row})
        self.others = [at for at in range(len(work)) if at not in self.ours]
        self.hopeless = {}

    def row_on(self, done):
        """The first row of the ways' steps that are left by which all go on when this is done, None if they can't."""
        now = done_by(self.settling(done), done)
        left = [at for at in self.ours if not has(now, at)]
        if not left or now in self.hopeless:
            return None if left else ()
        for at in left:
            if self.can_go(now, at):
                rest = self.row_on(now | (1 << at))
                if rest is not None:
                    return (at, *rest)
        self.hopeless[now] = True
        return None

    def can_go(self, done, at):
        """Whether step number at can be next without breaking a way."""
        return can_be_next(self.work, done, at) and all([
            self.is_left_alone(row, places, done, at) for row, places in zip(self.rows, self.spots)])

    def is_left_alone(self, row, places, done, at):
        """Whether step number at takes the grain of a way on as it should, or does not touch it."""
        left = [number for number in row if not has(done, number)]
        if not left or left[0] == at:
            return True
        guarded = places[len(row) - len(left)]
        return at not in left and guarded not in self.work.steps[at].places

    def settling(self, done):
        """The steps of none of the ways that can be done in turn ahead of the next one of theirs, all of them."""
        # They move no grain. So what can be done is best done at once: it bars nothing, and others may wait for it.
        found = []
        many = -1
        while many < len(found):
            many = len(found)
            for at in self.others:
                if self.can_go(done_by(found, done), at):
                    found.append(at)
        return found


def together(work, several):
    """Whether all ways happen in one order."""
    check_ways(work, several)
    return Bundle(work, several).row_on(0) is not None


def order_of_all(work, several):
    """Some order in which all ways happen, None if there is none."""
    check_ways(work, several)
    bundle = Bundle(work, several)
    row = bundle.row_on(0)
    if row is None:
        return None
    order = bundle.settling(0)
    for at in row:
        order = [*order, at]
        order = [*order, *bundle.settling(done_by(order, 0))]
    return tuple([work.names[at] for at in order])


def first_row(work, several):
    """The first row, by numbers, of all steps of the ways as they stand in an order in which all happen, or None."""
    check_ways(work, several)
    row = Bundle(work, several).row_on(0)
    return None if row is None else tuple([work.names[at] for at in row])


def check_ways(work, several):
    """Raises InvalidWay for the first wrong one of several ways with their last steps."""
    for pair in several:
        if not isinstance(pair, tuple) or len(pair) != 2:
            raise InvalidWay(0)
        check_way(work, pair[0], pair[1])


def done_by(numbers, done):
    """What is done behind the steps of these numbers, if this was done ahead of them."""
    for at in numbers:
        done = done | (1 << at)
    return done
