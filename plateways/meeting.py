"""Meeting: whether two traces come to one place at the same time in some order.

What is done is told as bits, as in the attribute heads of a work. A grain of each trace is followed at a time.
"""

from plateways.works import can_be_next


def meets(kitchen, one, other):
    """Whether both traces are at one place at the same time in some order."""
    return meeting(kitchen, one, other) is not None


def meeting(kitchen, one, other):
    """Some pair of a beginning, as short as possible, and a place where both traces are behind it, or None."""
    spots = spots_at_first(kitchen, one, other)
    while spots:
        for (_, place, there), rows in spots.items():
            if place == there:
                return rows[0][2], place
        spots = spots_behind(kitchen.work, spots)
    return None


def spots_at_first(kitchen, one, other):
    """The places of two grains: a dict from what is done and both places to rows of both levels and a beginning."""
    places = [(place, level) for trace, place, level in kitchen.traces if trace == one]
    others = [(place, level) for trace, place, level in kitchen.traces if trace == other]
    return {(0, place, there): [(level, height, ())] for place, level in places for there, height in others}


def spots_behind(work, spots):
    """The same behind one step more."""
    found = {}
    for spot, rows in spots.items():
        for more, less, fewer, name in turns_from(work, spot):
            moved = rows_behind(rows, less, fewer, name)
            if moved:
                found[more] = best_rows([*found.get(more, []), *moved])
    return found


def turns_from(work, spot):
    """Where each step that can be next leads both grains, with both losses and the name of the step."""
    done, place, there = spot
    found = []
    for at, step in enumerate(work.steps):
        if can_be_next(work, done, at):
            ends, goals = moves(step, place), moves(step, there)
            found.extend([((done | (1 << at), end, goal), less, fewer, step.name)
                          for end, less in ends for goal, fewer in goals])
    return found


def moves(step, place):
    """Where the step can lead a grain from this place, with what loss."""
    if place not in step.places:
        return [(place, 0)]
    return [(end, less) for start, end, less in step.arrows if start == place]


def rows_behind(rows, less, fewer, name):
    """The rows behind the step of this name, without those in which a grain is lost."""
    return [(level - less, height - fewer, (*beginning, name)) for level, height, beginning in rows
            if level > less and height > fewer]


def best_rows(rows):
    """The rows but for those with levels both of which another one has or exceeds."""
    best = []
    for level, height, beginning in rows:
        if not any([row[0] >= level and row[1] >= height for row in best]):
            best = [row for row in best if row[0] > level or row[1] > height]
            best.append((level, height, beginning))
    return best
