"""Kitchens: a work, the traces that are there at first, and the limits that they should not reach."""

from plateways.basics import is_level, is_name, is_number, is_sequence
from plateways.errors import InvalidKitchen, InvalidText, NoLimit
from plateways.texts import limit_told, rows_told, trace_told
from plateways.works import Work, steps_made, work_told


class Kitchen:
    """A work, with traces (trace, place, level) and limits (trace, step, place, level)."""

    def __init__(self, work, traces=(), limits=()):
        if not isinstance(work, Work):
            raise InvalidKitchen("work")
        if not are_traces(traces):
            raise InvalidKitchen("traces")
        if not are_limits(limits, work.steps):
            raise InvalidKitchen("limits")
        self.work = work
        self.traces = tuple(traces)
        self.limits = tuple(limits)

    @classmethod
    def read(cls, text):
        """The kitchen that a text tells."""
        lines = text.split("\n")
        told, pairs, behind = work_told(lines, 0)
        traces, limits = end_told(lines, behind)
        return cls(Work(steps_made(told), pairs), traces, limits)

    def with_work(self, work):
        """The kitchen with another work."""
        return Kitchen(work, self.traces, self.limits)

    def __eq__(self, other):
        return isinstance(other, Kitchen) and str(self) == str(other)

    def __str__(self):
        return "\n".join([str(self.work), *end_lines(self.traces, self.limits)])


def are_traces(value):
    """Whether any value is a sequence of traces, no two of the same name at the same place."""
    if not is_sequence(value) or not all([is_trace(trace) for trace in value]):
        return False
    return len({(trace[0], trace[1]) for trace in value}) == len(value)


def is_trace(value):
    """Whether any value tells a trace, its place and its level."""
    if not isinstance(value, tuple) or len(value) != 3:
        return False
    return is_name(value[0]) and is_name(value[1]) and is_level(value[2])


def are_limits(value, steps):
    """Whether any value is a sequence of limits of these steps."""
    if not is_sequence(value):
        return False
    places = {step.name: step.places for step in steps}
    return all([is_limit(limit, places) for limit in value])


def is_limit(value, places):
    """Whether any value is a limit of one of the steps that touch these places, told by their names."""
    if not isinstance(value, tuple) or len(value) != 4:
        return False
    if not is_name(value[0]) or not is_name(value[1]) or not is_level(value[3]):
        return False
    return value[2] in places.get(value[1], ())


def limit_of(limits, at):
    """The limit of this number."""
    if not is_number(at) or at >= len(limits):
        raise NoLimit(at)
    return limits[at]


def end_told(lines, at):
    """The traces and the limits that all lines from number at on tell, as the constructors take them."""
    traces = rows_told(lines, at, trace_told)
    limits = rows_told(lines, at + len(traces), limit_told)
    behind = at + len(traces) + len(limits)
    if behind < len(lines):
        raise InvalidText(behind)
    return traces, limits


def end_lines(traces, limits):
    """The lines that tell these traces and limits."""
    lines = [f"trace {trace} {place} {level}" for trace, place, level in traces]
    return [*lines, *[f"limit {trace} {step} {place} {level}" for trace, step, place, level in limits]]
