"""Works: steps, some of which must stand ahead of others, and the orders in which they can be done."""

from plateways.basics import is_pair_of, is_sequence
from plateways.errors import InvalidText, InvalidWork, NoStep
from plateways.steps import Step, step_told
from plateways.texts import pair_told, rows_told


class Work:
    """Steps with unlike names, and pairs of them that tell which one stands ahead of which.

    The attribute heads has for each step the steps that must stand ahead of it, as the bits of a
    number: bit k stands for step number k.
    """

    def __init__(self, steps, ahead=()):
        if not are_steps(steps):
            raise InvalidWork("steps")
        names = tuple([step.name for step in steps])
        if not is_sequence(ahead) or not all([is_pair_of(names, pair) for pair in ahead]):
            raise InvalidWork("ahead")
        heads = heads_by(names, ahead)
        if has_ring(heads):
            raise InvalidWork("ahead")
        self.steps = tuple(steps)
        self.ahead = tuple(ahead)
        self.names = names
        self.places = tuple(sorted({place for step in steps for place in step.places}))
        self.heads = heads

    @classmethod
    def read(cls, text):
        """The work that a text tells."""
        lines = text.split("\n")
        told, pairs, behind = work_told(lines, 0)
        if behind < len(lines):
            raise InvalidText(behind)
        return cls(steps_made(told), pairs)

    def step(self, name):
        """The step of this name."""
        return self.steps[number_of(self, name)]

    def is_ahead(self, one, other):
        """Whether the one step must stand ahead of the other one."""
        at = number_of(self, one)
        return has(self.heads[number_of(self, other)], at)

    def fenced(self, pairs):
        """The work with further pairs behind its own ones."""
        if not is_sequence(pairs):
            raise InvalidWork("ahead")
        return Work(self.steps, [*self.ahead, *pairs])

    def washed(self, pairs):
        """The work in which the step of each pair is washed at its place."""
        steps = list(self.steps)
        for name, place in pairs:
            at = number_of(self, name)
            steps[at] = steps[at].washed(place)
        return Work(steps, self.ahead)

    def __eq__(self, other):
        return isinstance(other, Work) and str(self) == str(other)

    def __str__(self):
        pairs = [f"ahead {one} {other}" for one, other in self.ahead]
        return "\n".join([*[str(step) for step in self.steps], *pairs])

    def __len__(self):
        return len(self.steps)


def are_steps(value):
    """Whether any value is a sequence of at least one step, all with unlike names."""
    if not is_sequence(value) or not value or not all([isinstance(step, Step) for step in value]):
        return False
    return len({step.name for step in value}) == len(value)


def work_told(lines, at):
    """The steps and the pairs of a work that begins with line number at, as the constructors take them,
    and the number of the first line behind it."""
    told = rows_told(lines, at, step_told)
    if not told:
        raise InvalidText(at)
    pairs = rows_told(lines, at + len(told), pair_told)
    return told, pairs, at + len(told) + len(pairs)


def steps_made(told):
    """The steps of these names, places and arrows."""
    return [Step(name, places, arrows) for name, places, arrows in told]


def number_of(work, name):
    """The number of the step of this name in the work."""
    if name not in work.names:
        raise NoStep(name)
    return work.names.index(name)


def has(done, at):
    """Whether step number at is one of the steps that these bits stand for."""
    return (done >> at) & 1 == 1


def heads_by(names, ahead):
    """For each of the names, as bits, those ahead of it by the pairs, one behind another."""
    heads = [0 for _ in names]
    for one, other in ahead:
        at = names.index(other)
        heads[at] = heads[at] | (1 << names.index(one))
    return tuple(joined(heads))


def joined(heads):
    """For each step, as bits, those ahead of it by these heads, one behind another."""
    wider = list(heads)
    # Behind round k all that is ahead by way of the steps up to number k is known.
    for middle in range(len(wider)):
        for at in range(len(wider)):
            if has(wider[at], middle):
                wider[at] = wider[at] | wider[middle]
    return wider


def has_ring(heads):
    """Whether some step stands ahead of itself by these heads, which are joined."""
    return any([has(head, at) for at, head in enumerate(heads)])


def can_be_next(work, done, at):
    """Whether step number at can be done when the steps of these bits are done."""
    return not has(done, at) and done & work.heads[at] == work.heads[at]


def first_wrong(work, row):
    """The index of the first thing in a sequence that is no step, or can't be next there; None if all can."""
    done = 0
    for index, name in enumerate(row):
        if name not in work.names:
            return index
        at = work.names.index(name)
        if not can_be_next(work, done, at):
            return index
        done = done | (1 << at)
    return None


def is_beginning(work, value):
    """Whether any value is a beginning of an order of the work."""
    return isinstance(value, tuple) and first_wrong(work, value) is None


def is_order(work, value):
    """Whether any value is an order of the work."""
    return is_beginning(work, value) and len(value) == len(work)


def many_orders(work):
    """How many orders the work has."""
    # Beginnings of the same steps go on alike, so they are counted together.
    counts = {0: 1}
    for _ in work.steps:
        counts = counts_longer(work, counts)
    return sum(counts.values())


def counts_longer(work, counts):
    """From how many beginnings have these steps (as bits), how many have these and one more."""
    longer = {}
    for done, many in counts.items():
        for at in range(len(work)):
            if can_be_next(work, done, at):
                more = done | (1 << at)
                longer[more] = longer.get(more, 0) + many
    return longer


def all_done(work):
    """All steps that can be done at some time, as bits, each time's behind those of the times ahead of it."""
    counts = {0: 1}
    found = [0]
    for _ in work.steps:
        counts = counts_longer(work, counts)
        found.extend(list(counts))
    return found
