"""What the tests of recipes use: stories tried layer by layer, and the rules of needs looked at plainly."""

from collections import Counter
from itertools import combinations

from examples import done_plainly


def lots_of(work):
    """All lots of names of steps that are done by some beginning of the work, the empty one too."""
    lots = [lot for many in range(len(work) + 1) for lot in combinations(sorted(work.names), many)]
    told = [lot for lot in lots if all(one in lot for one, other in work.ahead if other in lot)]
    return told


def turns_of(book):
    """All turns: the number of a work, the lot that is done, and a step that can be next."""
    found = []
    for at, work in enumerate(book.works):
        for lot in lots_of(work):
            for step in work.steps:
                if step.name not in lot and all(one in lot for one, other in work.ahead if other == step.name):
                    found.append((at, lot, step))
    return found


def with_dish(dishes, at, lot):
    """The dishes, with one more that has done the lot, if it is not empty."""
    return tuple(sorted([*dishes, (at, lot)] if lot else dishes))


def come_back(book, need):
    """All needs to which one comes back from a need."""
    place, dishes, level = need
    found = []
    for at, lot, step in turns_of(book):
        behind = (at, tuple(sorted((*lot, step.name))))
        fewer = list(dishes)
        if behind in fewer:
            fewer.remove(behind)
            if place not in step.places:
                found.append((place, with_dish(fewer, at, lot), level))
        for start, end, less in step.arrows:
            if end == place:
                found.append((start, with_dish(fewer, at, lot), level + less))
    return found


def last_needs(book, name, place, level):
    return [(place, with_dish((), at, lot), level) for at, lot, step in turns_of(book) if step.name == name]


def limit_needs(book, limit):
    _, name, place, level = limit
    steps = {step.name: step for work in book.works for step in work.steps}
    return last_needs(book, name, place, level) if place in [start for start, _, _ in steps[name].arrows] else []


def is_covered(need, other):
    """Whether a need is covered by the other one."""
    return need[0] == other[0] and need[2] >= other[2] and not Counter(other[1]) - Counter(need[1])


def all_needs(book, needs, most):
    """All needs from these on, back and back again, that no other one covers."""
    left, found = list(needs), []
    while left:
        need = left.pop(0)
        if not any(is_covered(need, other) for other in found):
            found = [other for other in found if not is_covered(other, need)] + [need]
            left.extend(more for more in come_back(book, need) if more[2] <= most)
    return found


def firsts_of(book, trace):
    return {place: level for other, place, level in book.traces if other == trace}


def worst_backwards(book, trace, name, place):
    """The greatest level, by all needs."""
    firsts = firsts_of(book, trace)
    needs = all_needs(book, last_needs(book, name, place, 1), max(firsts.values(), default=0))
    return max([0, *[firsts.get(spot, 0) - level + 1 for spot, dishes, level in needs if not dishes]])


def is_right(book, at, paper):
    """Whether a paper of needs is right, by the three rules."""
    limit = book.limits[at]
    firsts = firsts_of(book, limit[0])
    most = max(firsts.values(), default=0)
    needed = limit_needs(book, limit) + [more for need in paper for more in come_back(book, need) if more[2] <= most]
    if any(not dishes and firsts.get(place, 0) >= level for place, dishes, level in paper):
        return False
    return all(any(is_covered(need, other) for other in paper) for need in needed)


def most_by_stories(book, many):
    """For (trace, step, place) the greatest level just ahead of the step in stories of so many rows, layer by layer."""
    turns = turns_of(book)
    layer = {((), tuple(sorted(book.traces))): True}
    best = {}
    for _ in range(many):
        behind = {}
        for dishes, levels in layer:
            now = {(trace, place): level for trace, place, level in levels}
            for at, lot, step in turns:
                if not lot or (at, lot) in dishes:
                    for (trace, place), level in now.items():
                        if place in step.places:
                            best[trace, step.name, place] = max(level, best.get((trace, step.name, place), 0))
                    fewer = list(dishes)
                    if lot:
                        fewer.remove((at, lot))
                    more = with_dish(fewer, at, tuple(sorted((*lot, step.name))))
                    behind[more, tuple(sorted((*key, level) for key, level in done_plainly(step, now).items()))] = True
        layer = behind
    return best


def spots_of(book):
    """All triples of a trace, a step and a place that it touches."""
    traces = sorted({trace for trace, _, _ in book.traces} | {limit[0] for limit in book.limits} | {"soy"})
    return [(trace, step.name, place) for trace in traces for work in book.works for step in work.steps for place in step.places]
