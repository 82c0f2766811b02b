"""Logs: what is known of a limit if only of some pairs of steps it is known which one was done first.

Lots of orders are kept as bits, by the numbers of the orders.
"""

from itertools import combinations

from plateways.basics import is_pair_of, is_sequence
from plateways.errors import InvalidRow
from plateways.kitchens import limit_of
from plateways.numbering import Orders


class Inquiry:
    """A limit of a kitchen, a log, and the questions that can be asked."""

    def __init__(self, kitchen, log, at):
        orders = Orders(kitchen.work)
        lots = orders.by_pairs()
        self.start = lot_left(orders.whole(), lots, kitchen.work.names, log)
        limit = limit_of(kitchen.limits, at)
        self.harmful = orders.whole() ^ orders.clean(kitchen, [limit])
        names = sorted(kitchen.work.names)
        self.answers = [(pair, lots[pair], lots[pair[1], pair[0]]) for pair in combinations(names, 2)]
        self.known = {}

    def status_of(self, lot):
        """What is known of the limit if the order is one of this lot."""
        harmed = lot & self.harmful
        if harmed == 0:
            return "clean"
        return "harmed" if harmed == lot else "open"

    def can_settle(self, lot, many):
        """Whether so many questions are surely enough if the order is one of this lot."""
        if self.status_of(lot) != "open":
            return True
        if many == 0:
            return False
        # Other answers, or the same ones in another order, can lead to the same lot.
        key = (lot, many)
        if key not in self.known:
            self.known[key] = self.has_question(lot, many)
        return self.known[key]

    def has_question(self, lot, many):
        """Whether there is a question to ask next, with so many in all."""
        for _, one, other in self.answers:
            first, second = lot & one, lot & other
            if first and second and self.can_settle(first, many - 1) and self.can_settle(second, many - 1):
                return True
        return False


def status(kitchen, log, at):
    """Whether the limit is reached in no order that fits the log (clean), in all (harmed), or else (open)."""
    inquiry = Inquiry(kitchen, log, at)
    return inquiry.status_of(inquiry.start)


def settling(kitchen, log, at):
    """All pairs of steps of which it is not known which one was first, and the answer surely settles the status."""
    inquiry = Inquiry(kitchen, log, at)
    found = []
    for pair, one, other in inquiry.answers:
        halves = [inquiry.start & one, inquiry.start & other]
        if all(halves) and "open" not in [inquiry.status_of(lot) for lot in halves]:
            found.append(pair)
    return tuple(found)


def questions(kitchen, log, at):
    """The least number of questions, which of two steps was first, that surely settle the status."""
    inquiry = Inquiry(kitchen, log, at)
    many = 0
    while not inquiry.can_settle(inquiry.start, many):
        many += 1
    return many


def lot_left(lot, lots, names, log):
    """What any value as a log leaves of a lot of orders, by the lots of the pairs of these names; raises InvalidRow."""
    if not is_sequence(log):
        raise InvalidRow(0)
    for index, pair in enumerate(log):
        if not is_pair_of(names, pair):
            raise InvalidRow(index)
        lot = lot & lots[pair]
        if lot == 0:
            raise InvalidRow(index)
    return lot
