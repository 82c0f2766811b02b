"""What several tests use: the document's example, any values, and orders found by trying them all."""

from itertools import permutations

from plateways.errors import InvalidText, NoStep
from plateways.steps import Step
from plateways.works import Work

LINES = (
    "chop at board nuts go nuts board 0, nuts nuts 0, board board 0",
    "toss at board bowl go board bowl 0, board board 0, bowl bowl 0",
    "wash at board go board board 3",
    "cut at board plate go board plate 1, board board 0, plate plate 0",
    "serve at plate go plate plate 0",
    "ahead chop toss",
    "ahead cut serve",
)


def example():
    return Work.read("\n".join(LINES))


def plain(names, pairs=()):
    """A work of steps that all touch one place."""
    return Work([Step(name, ["pan"]) for name in names], pairs)


def nested(many):
    value = "cut"
    for _ in range(many):
        value = (value,)
    return value


def any_values():
    """Values of every kind that a function for any value must stand."""
    step = Step("cut", ["board"])
    return [
        0, 1, -1, 5, 10 ** 18, True, False, None,
        "", "a", "cut", "board", "Cut", "c t", "cut\n", "at", "go", "ahead", "trace", "limit", "work",
        "toolong", "caf\u00e9", "\u0430", "a1", "_",
        step, Work([step]), InvalidText(0), NoStep("cut"),
        (), [], ("cut",), ["cut"], ("cut", "board"), ["cut", "board"], ("cut", "cut"),
        ("board", "board", 0), ["board", "board", 0], [("board", "board", 0)], (("board", "board", True),),
        [("cut", "wash")], (("cut", "wash", "chop"),), [["cut", "wash"]], [step], (step, step), [None], (0,), ([],),
        [[("cut",)]], nested(8), [nested(7)],
    ]


def orders(names, pairs):
    """All orders, found by trying each row of the names."""
    found = []
    for row in permutations(names):
        if all(row.index(one) < row.index(other) for one, other in pairs):
            found.append(row)
    return found
