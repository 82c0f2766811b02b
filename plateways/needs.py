"""Needs: what is enough for a trace to come on to a step of a book, looked at backwards.

A need is a triple (place, dishes, level). A dish is told by a pair: the number of its work, and the lot of the names of
its steps that are done. A dish of which nothing is done is not told. A turn is a triple (step, ahead, behind) of a step
that a dish can do next, and tuples of what is told of this dish ahead of the step (perhaps nothing) and behind it.
"""

from plateways.basics import is_level, is_name, is_number
from plateways.works import all_done, can_be_next, has


class Turns:
    """All turns of the dishes of a book: by the dish that is there behind them, and by the ends of their arrows."""

    def __init__(self, book):
        self.rows = [turn for at, work in enumerate(book.works) for turn in turns_of(at, work)]
        self.by_dish = {}
        self.by_end = {}
        for turn in self.rows:
            step, _, behind = turn
            self.by_dish.setdefault(behind[0], []).append(turn)
            for start, end, less in step.arrows:
                self.by_end.setdefault(end, []).append((turn, start, less))

    def at_last(self, last):
        """Each turn by the step of a triple (step, place, level), with the need of that level there ahead of it."""
        name, place, level = last
        return [(turn, (place, turn[1], level)) for turn in self.rows if turn[0].name == name]

    def back(self, need):
        """Each turn by which one comes back from the need, with the need to which one comes."""
        place, dishes, level = need
        found = []
        for dish in sorted(set(dishes)):
            for turn in self.by_dish[dish]:
                if place not in turn[0].places:
                    found.append((turn, (place, dishes_ahead(dishes, turn), level)))
        for turn, start, less in self.by_end.get(place, []):
            found.append((turn, (start, dishes_ahead(dishes, turn), level + less)))
        return found

    def is_need(self, value):
        """Whether any value is a need."""
        if not isinstance(value, tuple) or len(value) != 3 or not is_name(value[0]) or not is_level(value[2]):
            return False
        dishes = value[1]
        if not isinstance(dishes, tuple) or not all([self.is_dish(dish) for dish in dishes]):
            return False
        return list(dishes) == sorted(dishes)

    def is_dish(self, value):
        """Whether any value tells a dish that can be there."""
        if not isinstance(value, tuple) or len(value) != 2 or not is_number(value[0]):
            return False
        return isinstance(value[1], tuple) and all([is_name(name) for name in value[1]]) and value in self.by_dish


def turns_of(at, work):
    """All turns of the dishes of work number at."""
    turns = []
    for done in all_done(work):
        for number, step in enumerate(work.steps):
            if can_be_next(work, done, number):
                turns.append((step, dish_told(at, work, done), dish_told(at, work, done | (1 << number))))
    return turns


def dish_told(at, work, done):
    """What is told of a dish of work number at of which the steps of these bits are done."""
    lot = [name for number, name in enumerate(work.names) if has(done, number)]
    return ((at, tuple(sorted(lot))),) if lot else ()


def dishes_ahead(dishes, turn):
    """The dishes that must be there ahead of the turn for these to be there behind it."""
    _, ahead, behind = turn
    left = list(dishes)
    if behind[0] in left:
        left.remove(behind[0])
    return tuple(sorted([*left, *ahead]))


def add_need(table, need):
    """Puts a need into a dict from places to dicts from dishes to the least levels of needs."""
    place, dishes, level = need
    rows = table.setdefault(place, {})
    rows[dishes] = min(level, rows.get(dishes, level))


def is_covered(table, need):
    """Whether a need is covered by one of such a dict."""
    place, dishes, level = need
    rows = table.get(place, {})
    if 1 << len(dishes) < len(rows):
        return any([part in rows and rows[part] <= level for part in parts_of(dishes)])
    return any([low <= level and is_part(part, dishes) for part, low in rows.items()])


def parts_of(dishes):
    """All tuples of some of these dishes, which ascend."""
    parts = [()]
    for dish in dishes:
        parts = [*parts, *[(*part, dish) for part in parts]]
    return parts


def is_part(part, dishes):
    """Whether the dishes of a part are some of these, each as often; both ascend."""
    at = 0
    for dish in part:
        while at < len(dishes) and dishes[at] < dish:
            at += 1
        if at == len(dishes) or dishes[at] != dish:
            return False
        at += 1
    return True
