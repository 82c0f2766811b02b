"""What several tests use: the document's example, any values, and orders found by trying them all."""

import random
from itertools import permutations

from plateways.books import Book
from plateways.errors import InvalidText, NoStep
from plateways.kitchens import Kitchen
from plateways.steps import Step
from plateways.works import Work

LINES = (
    "chop at board nuts go nuts board 0, nuts nuts 0, board board 0",
    "toss at board bowl go board bowl 0, board board 0, bowl bowl 0",
    "wash at board go board board 3",
    "cut at board plate go board plate 1, board board 0, plate plate 0",
    "serve at plate go plate plate 0",
    "ahead chop toss",
    "ahead cut serve",
)

KITCHEN_LINES = (*LINES, "trace egg bowl 2", "trace nut nuts 5", "limit nut serve plate 3")
BOOK_LINES = ("work", *LINES[:2], LINES[5], "work", *LINES[2:5], "ahead wash cut", LINES[6], *KITCHEN_LINES[8:])
WAY = ("nuts", ("chop", "board"), ("cut", "plate"))


def example():
    return Work.read("\n".join(LINES))


def kitchen_example():
    return Kitchen.read("\n".join(KITCHEN_LINES))


def book_example():
    return Book.read("\n".join(BOOK_LINES))


def strict_book():
    """The book of the example in which the box of the nuts is touched when the bread is cut."""
    return Book.read(str(book_example()).replace("cut at board plate", "cut at board nuts plate"))


def thin_book():
    """The book of the example in which too little of the nuts comes along with the bread."""
    return Book.read(str(book_example()).replace("board plate 1", "board plate 3"))


def fenced_example():
    """The work of the example with the fences by which the board is washed between the nuts and the bread."""
    return example().fenced([("chop", "wash"), ("wash", "cut")])


def plain(names, pairs=()):
    """A work of steps that all touch one place."""
    return Work([Step(name, ["pan"]) for name in names], pairs)


def nested(many):
    value = "cut"
    for _ in range(many):
        value = (value,)
    return value


def any_values():
    """Values of every kind that a function for any value must stand."""
    step = Step("cut", ["board"])
    return [
        0, 1, -1, 5, 10 ** 18, True, False, None,
        "", "a", "cut", "board", "Cut", "c t", "cut\n", "at", "go", "ahead", "trace", "limit", "work",
        "toolong", "caf\u00e9", "\u0430", "a1", "_",
        step, Work([step]), Kitchen(Work([step])), Book([Work([step])]), InvalidText(0), NoStep("cut"),
        (), [], ("cut",), ["cut"], ("cut", "board"), ["cut", "board"], ("cut", "cut"),
        ("board", "board", 0), ["board", "board", 0], [("board", "board", 0)], (("board", "board", True),),
        [("cut", "wash")], (("cut", "wash", "chop"),), [["cut", "wash"]], [step], (step, step), [None], (0,), ([],),
        [[("cut",)]], nested(8), [nested(7)], ("board", ("cut", "board")), ("board", ["cut", "board"]), ("Board",),
        (("cut", "cut", "join", (0, 0)),), (("cut", "wash", "work", ()),), (("cut", "cut", "work", [[()]]),),
        (0, "cut"), ((0, "cut"),), [(0, "cut")], [(True, "cut")], [[0, "cut"]], ((1, "cut"),), (0, ("cut",)), (True, ("cut",)),
        (("board", (), 3),), [("board", ((0, ("cut",)),), 3)], (("board", ((0, ["cut"]),), 3),), (("board", ((False, ("cut",)),), 3),),
        [("nut", "board", 3)], [("nut", "cut", "board", 3)], (("nut", "board", 0),), (("nut", "cut", "board", True),),
    ]


def orders(names, pairs):
    """All orders, found by trying each row of the names."""
    found = []
    for row in permutations(names):
        if all(row.index(one) < row.index(other) for one, other in pairs):
            found.append(row)
    return found


def some_works(seed, many, most=5):
    """Works of a few steps over a few places, with arrows of many kinds."""
    chance = random.Random(seed)
    for _ in range(many):
        names = list("abcdefg"[:chance.randint(1, most)])
        places = ["pan", "pot", "dish", "sink"][:chance.randint(1, 4)]
        steps = [some_step(chance, name, places) for name in names]
        rank = list(names)
        chance.shuffle(rank)
        pairs = chance.randint(0, len(names)) if len(names) > 1 else 0
        chance.shuffle(steps)
        yield Work(steps, [tuple(sorted(chance.sample(names, 2), key=rank.index)) for _ in range(pairs)])


def some_step(chance, name, places):
    touched = chance.sample(places, chance.randint(1, min(3, len(places))))
    arrows = {}
    for place in touched:
        if chance.random() < 0.6:
            arrows[place, place] = chance.choice((0, 0, 1, 3))
    for _ in range(chance.randint(0, 3)):
        arrows[chance.choice(touched), chance.choice(touched)] = chance.choice((0, 1, 2, 4))
    return Step(name, touched, [(start, end, less) for (start, end), less in arrows.items()])


def some_kitchens(seed, many, most=5):
    """Kitchens of such works, with a few traces and limits."""
    chance = random.Random(seed)
    for work in some_works(seed + 1, many, most):
        levels = {}
        for _ in range(chance.randint(0, 4)):
            levels[chance.choice(("nut", "egg", "soy")), chance.choice((*work.places, "moon"))] = chance.randint(1, 6)
        limits = []
        for _ in range(chance.randint(0, 3)):
            step = chance.choice(work.steps)
            limits.append((chance.choice(("nut", "egg", "soy")), step.name, chance.choice(step.places), chance.randint(1, 4)))
        yield Kitchen(work, [(trace, place, level) for (trace, place), level in levels.items()], limits)


def thick_kitchens(seed, many, most=5):
    """Kitchens in which traces often come far: few losses, traces where steps begin, and three limits or fewer."""
    chance = random.Random(seed)
    for _ in range(many):
        names = chance.sample("abcdefgh", chance.randint(min(2, most), most))
        places = ["pan", "pot", "dish", "sink"][:chance.randint(2, 4)]
        steps = [thick_step(chance, name, places) for name in names]
        rank = chance.sample(names, len(names))
        pairs = [tuple(sorted(chance.sample(names, 2), key=rank.index)) for _ in range(chance.randint(0, len(names) - 1))]
        work = Work(steps, pairs)
        levels = {(trace, chance.choice(places)): chance.randint(2, 7) for trace in ("nut", "nut", "egg")}
        traces = [(trace, place, level) for (trace, place), level in levels.items()]
        limits = []
        for _ in range(chance.randint(1, 3)):
            step = chance.choice(steps)
            limits.append((chance.choice(("nut", "nut", "egg")), step.name, chance.choice(step.places), chance.randint(1, 5)))
        yield Kitchen(work, traces, limits)


def thick_step(chance, name, places):
    touched = chance.sample(places, chance.randint(1, min(4, len(places))))
    arrows = {(place, place): chance.choice((0, 0, 0, 1)) for place in touched if chance.random() < 0.5}
    for _ in range(chance.randint(1, 2)):
        arrows[chance.choice(touched), chance.choice(touched)] = chance.choice((0, 0, 1, 2))
    return Step(name, touched, [(start, end, less) for (start, end), less in arrows.items()])


def some_books(seed, many, most_works=3, most_steps=3):
    """Books of a few recipes over a few places, with a few traces and limits."""
    chance = random.Random(seed)
    for _ in range(many):
        places = ["pan", "pot", "dish", "sink"][:chance.randint(2, 4)]
        names = list("abcdefghijklmno")
        chance.shuffle(names)
        works = []
        for _ in range(chance.randint(1, most_works)):
            steps = [thick_step(chance, names.pop(), places) for _ in range(chance.randint(1, most_steps))]
            told = [step.name for step in steps]
            rank = chance.sample(told, len(told))
            pairs = chance.randint(0, 2 * len(told) - 2)
            works.append(Work(steps, [tuple(sorted(chance.sample(told, 2), key=rank.index)) for _ in range(pairs)]))
        levels = {(trace, chance.choice(places)): chance.randint(1, 5) for trace in ("nut", "nut", "egg")[:chance.randint(0, 3)]}
        limits = []
        for _ in range(chance.randint(0, 3)):
            step = chance.choice([step for work in works for step in work.steps])
            limits.append((chance.choice(("nut", "nut", "egg")), step.name, chance.choice(step.places), chance.randint(1, 4)))
        yield Book(works, [(trace, place, level) for (trace, place), level in levels.items()], limits)


def done_plainly(step, now):
    """The levels behind a step, looked at plainly, a trace and a place at a time."""
    behind = {}
    for trace, place in sorted({(trace, place) for trace, _ in now for place in (*step.places, *[spot for _, spot in now])}):
        if place in step.places:
            coming = [now.get((trace, start), 0) - less for start, end, less in step.arrows if end == place]
        else:
            coming = [now.get((trace, place), 0)]
        if max([0, *coming]) >= 1:
            behind[trace, place] = max(coming)
    return behind


def cooked_in_turn(thing, steps):
    """The levels behind these steps of a kitchen or a book, and the limits that are reached in them, cooked step by step."""
    now, found = {(trace, place): level for trace, place, level in thing.traces}, set()
    for step in steps:
        for at, (trace, name, place, level) in enumerate(thing.limits):
            if step.name == name and now.get((trace, place), 0) >= level and any(start == place for start, _, _ in step.arrows):
                found.add(at)
        now = done_plainly(step, now)
    return tuple(sorted((*key, level) for key, level in now.items())), tuple(sorted(found))


def cooked_plainly(kitchen):
    """The levels behind each beginning of the work, cooked step by step."""
    behind = {(): {(trace, place): level for trace, place, level in kitchen.traces}}
    for row in orders(kitchen.work.names, kitchen.work.ahead):
        for many, name in enumerate(row):
            if row[:many + 1] not in behind:
                behind[row[:many + 1]] = done_plainly(kitchen.work.step(name), behind[row[:many]])
    return behind


def reached_plainly(kitchen, behind, row):
    """The numbers of the limits that are reached in a beginning, by what is behind all of them."""
    found = set()
    for at, (trace, name, place, level) in enumerate(kitchen.limits):
        leads = any(start == place for start, _, _ in kitchen.work.step(name).arrows)
        if name in row and leads and behind[row[:row.index(name)]].get((trace, place), 0) >= level:
            found.add(at)
    return found


def level_left(kitchen, trace, way):
    """The level of the trace at first at the first place of the way, less the losses of its arrows."""
    places = [way[0], *[place for _, place in way[1:]]]
    level = sum(level for other, place, level in kitchen.traces if (other, place) == (trace, way[0]))
    return level - sum(kitchen.work.step(name).loss(start, end) for (name, end), start in zip(way[1:], places))


def all_ways(work):
    """All ways of the work from the places that are touched, and one from a place that is not."""
    ways = [(place,) for place in (*work.places, "moon")]
    for way in ways:
        place = way[-1][1] if len(way) > 1 else way[0]
        done = [name for name, _ in way[1:]]
        for step in work.steps:
            if step.name not in done:
                ways.extend([(*way, (step.name, end)) for start, end, _ in step.arrows if start == place])
    return ways


def lasts(work, way):
    """None, and all steps that can be the last one of the way."""
    place = way[-1][1] if len(way) > 1 else way[0]
    done = [name for name, _ in way[1:]]
    return [None, *[step.name for step in work.steps if place in step.places and step.name not in done]]


def ways_and_lasts(work):
    return [(way, last) for way in all_ways(work) for last in lasts(work, way)]


def row_and_places(way, last):
    row = [name for name, _ in way[1:]] + ([] if last is None else [last])
    return row, [way[0]] + [place for _, place in way[1:]]


def happens(work, way, last, order):
    """Whether a way happens in an order, looked at plainly."""
    row, places = row_and_places(way, last)
    spots = [order.index(name) for name in row]
    if spots != sorted(spots):
        return False
    touched = {step.name: step.places for step in work.steps}
    if row and any(places[0] in touched[name] for name in order[:spots[0]]):
        return False
    return not any(place in touched[name] for place, one, other in zip(places[1:], spots, spots[1:])
                   for name in order[one + 1:other])


def closed_plainly(work, way, last):
    """All pairs that hold, by going over the rules till nothing is new."""
    row, places = row_and_places(way, last)
    touched = {step.name: step.places for step in work.steps}
    pairs = set(work.ahead) | set(zip(row, row[1:]))
    if row:
        pairs |= {(row[0], name) for name in work.names if name != row[0] and places[0] in touched[name]}
    many = -1
    while many < len(pairs):
        many = len(pairs)
        pairs |= {(one, last_one) for one, middle in pairs for other, last_one in pairs if middle == other}
        for brings, takes, place in zip(row, row[1:], places[1:]):
            others = [name for name in work.names if place in touched[name] and name not in (brings, takes)]
            pairs |= {(name, brings) for name in others if (name, takes) in pairs}
            pairs |= {(takes, name) for name in others if (brings, name) in pairs}
    return tuple(sorted(pairs))
