"""Recipes: what can come in any story of a book, however many dishes are made.

One looks backwards from a step: what is needed for a trace to come to it, and what is needed for that.
"""

from heapq import heappop, heappush

from plateways.books import step_in
from plateways.errors import NoPlace
from plateways.kitchens import limit_of
from plateways.needs import Turns, add_need, is_covered
from plateways.steps import leads_from


class Search:
    """The needs from which a trace comes to a place just ahead of a step: last is a triple (step, place, level).

    Found is each need that is not covered by an earlier one, least levels first. Start is the need that is met at first
    with the most to spare, None if there is none; then spare is -1.
    """

    def __init__(self, book, trace, last):
        self.turns = Turns(book)
        self.firsts = firsts_of(book, trace)
        self.most = max(self.firsts.values(), default=0)
        self.found = {}
        self.origins = {}
        self.queue = []
        self.start = None
        self.spare = -1
        self.put(self.turns.at_last(last), None)
        # Levels do not fall on the way back, so nothing better comes when even the most leaves no more to spare.
        while self.queue and (self.start is None or self.most - self.queue[0][0] > self.spare):
            _, _, need = heappop(self.queue)
            if not is_covered(self.found, need):
                self.look_at(need)

    def put(self, rows, origin):
        """Puts needs, with the turns by which one comes back to them from the origin, into the queue."""
        for turn, need in rows:
            if need not in self.origins:
                self.origins[need] = (turn, origin)
                # What has fewer steps done comes first, as it can cover the others.
                heappush(self.queue, (need[2], sum([len(lot) for _, lot in need[1]]), need))

    def look_at(self, need):
        """Notes a need, and puts those to which one comes back from it into the queue."""
        add_need(self.found, need)
        place, dishes, level = need
        spare = self.firsts.get(place, 0) - level
        if not dishes and spare > self.spare:
            self.start, self.spare = need, spare
        self.put([row for row in self.turns.back(need) if row[1][2] <= self.most], need)

    def turns_on(self):
        """The turns by which the trace comes from the start to the step, with the step's own one at the end."""
        turns = []
        need = self.start
        while need is not None:
            turn, need = self.origins[need]
            turns.append(turn)
        return turns


def worst_ever(book, trace, step, place):
    """The greatest level that the trace has at the place just ahead of the step in some story."""
    # The least level that is enough is 1, so what there is to spare is one less than what there is.
    return search_for(book, trace, step, place).spare + 1


def story_of(book, trace, step, place):
    """Some story that ends with this step, just ahead of which the trace has that level there, or None."""
    search = search_for(book, trace, step, place)
    return None if search.start is None else story_by(search.turns_on())


def ever(book):
    """The numbers of the limits that are reached in some story."""
    reached = []
    for at, limit in enumerate(book.limits):
        if leads(book, limit) and Search(book, limit[0], limit[1:]).start is not None:
            reached.append(at)
    return tuple(reached)


def book_paper(book, at):
    """Some right paper for this limit, None if it is reached in some story."""
    limit = limit_of(book.limits, at)
    if not leads(book, limit):
        return ()
    search = Search(book, limit[0], limit[1:])
    return least_needs(search.found) if search.start is None else None


def book_paper_holds(book, at, value):
    """Whether any value is a right paper for this limit."""
    limit = limit_of(book.limits, at)
    turns = Turns(book)
    if not isinstance(value, tuple) or not all([turns.is_need(need) for need in value]):
        return False
    firsts = firsts_of(book, limit[0])
    if any([not dishes and firsts.get(place, 0) >= level for place, dishes, level in value]):
        return False
    most = max(firsts.values(), default=0)
    table = {}
    needed = {need: True for _, need in turns.at_last(limit[1:])} if leads(book, limit) else {}
    for need in value:
        add_need(table, need)
        for _, more in turns.back(need):
            if more[2] <= most:
                needed[more] = True
    return all([is_covered(table, need) for need in needed])


def search_for(book, trace, name, place):
    """The search for the trace at the place just ahead of the step; raises NoStep and NoPlace."""
    if place not in step_in(book.works, name).places:
        raise NoPlace(place)
    return Search(book, trace, (name, place, 1))


def leads(book, limit):
    """Whether the limit's step has an arrow that starts at its place."""
    return leads_from(step_in(book.works, limit[1]), limit[2])


def firsts_of(book, trace):
    """The places where the trace is at first, with its levels there."""
    return {place: level for name, place, level in book.traces if name == trace}


def story_by(turns):
    """The story in which dishes take these turns."""
    dishes, story = [], []
    for step, ahead, behind in turns:
        if not ahead:
            at = len(dishes)
            dishes.append(behind[0])
        else:
            at = dishes.index(ahead[0])
            dishes[at] = behind[0]
        story.append((at, step.name))
    return tuple(story)


def least_needs(found):
    """The needs that are not covered by others."""
    needs = [(place, dishes, level) for place, rows in found.items() for dishes, level in rows.items()]
    table, kept = {}, []
    # What can cover another one has no higher level and fewer dishes, so it comes first.
    for need in sorted(needs, key=lambda row: (row[2], len(row[1]))):
        if not is_covered(table, need):
            add_need(table, need)
            kept.append(need)
    return tuple(sorted(kept))
