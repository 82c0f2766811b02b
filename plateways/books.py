"""Books: recipes, each of them a work, with traces that are there at first and limits that they should not reach."""

from plateways.basics import is_sequence
from plateways.errors import InvalidBook, InvalidText, NoStep
from plateways.kitchens import are_limits, are_traces, end_lines, end_told
from plateways.works import Work, steps_made, work_told


class Book:
    """Works, no two with a step's name in common, with traces and limits as kitchens have them."""

    def __init__(self, works, traces=(), limits=()):
        if not are_works(works):
            raise InvalidBook("works")
        if not are_traces(traces):
            raise InvalidBook("traces")
        if not are_limits(limits, steps_of(works)):
            raise InvalidBook("limits")
        self.works = tuple(works)
        self.traces = tuple(traces)
        self.limits = tuple(limits)

    @classmethod
    def read(cls, text):
        """The book that a text tells."""
        lines = text.split("\n")
        told, behind = works_told(lines)
        traces, limits = end_told(lines, behind)
        # The steps of all works are made ahead of the first work, so a wrong step is told ahead of a wrong work.
        made = [(steps_made(rows), pairs) for rows, pairs in told]
        return cls([Work(steps, pairs) for steps, pairs in made], traces, limits)

    def __eq__(self, other):
        return isinstance(other, Book) and str(self) == str(other)

    def __str__(self):
        lines = [line for work in self.works for line in ("work", str(work))]
        return "\n".join([*lines, *end_lines(self.traces, self.limits)])


def are_works(value):
    """Whether any value is a sequence of at least one work, no two of whose steps have the same name."""
    if not is_sequence(value) or not value or not all([isinstance(work, Work) for work in value]):
        return False
    steps = steps_of(value)
    return len({step.name for step in steps}) == len(steps)


def steps_of(works):
    """The steps of all these works."""
    return [step for work in works for step in work.steps]


def step_in(works, name):
    """The step of this name, of any of these works."""
    for step in steps_of(works):
        if step.name == name:
            return step
    raise NoStep(name)


def works_told(lines):
    """The steps and the pairs of each work, as the constructors take them, and the number of the line behind them."""
    told = []
    at = 0
    while at < len(lines) and lines[at] == "work":
        steps, pairs, at = work_told(lines, at + 1)
        told.append((steps, pairs))
    if not told:
        raise InvalidText(0)
    return told, at
