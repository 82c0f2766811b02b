"""Live kitchens: what is done in a kitchen, step by step, and taken back again."""

from plateways.basics import is_sequence
from plateways.clean import next_without
from plateways.cooking import levels, reached, reached_from, steps_in_turn
from plateways.errors import InvalidWork, Refused
from plateways.steps import Step
from plateways.works import Work, first_wrong


class Live:
    """A kitchen at work: the kitchen, the steps that were done, and both as they were ahead of each deed."""

    def __init__(self, kitchen):
        self._kitchen = kitchen
        self._done = ()
        self._past = ()

    @property
    def kitchen(self):
        """The kitchen as it is now."""
        return self._kitchen

    @property
    def done(self):
        """The names of the steps that were done."""
        return self._done

    @property
    def levels(self):
        """All traces, their places and their levels now."""
        return levels(self._kitchen, self._done)

    @property
    def reached(self):
        """The numbers of the limits that were reached."""
        return reached(self._kitchen, self._done)

    @property
    def clean_next(self):
        """The names of all steps that can be next so that in some order no limit more is reached."""
        found = reached(self._kitchen, self._done)
        limits = [limit for at, limit in enumerate(self._kitchen.limits) if at not in found]
        return next_without(self._kitchen, limits, self._done)

    def do(self, name):
        """Does a step; returns the numbers of the limits that are reached by it."""
        if first_wrong(self._kitchen.work, [*self._done, name]) is not None:
            raise Refused(len(self._done))
        return self.go_on([name])

    def several(self, names):
        """Does all of these steps, or nothing; returns the numbers of the limits that are reached by them."""
        if not is_sequence(names):
            raise Refused(0)
        at = first_wrong(self._kitchen.work, [*self._done, *names])
        if at is not None:
            raise Refused(at - len(self._done))
        return self.go_on(names)

    def add(self, step, after=()):
        """Adds a step to the work, behind the named steps."""
        work = self._kitchen.work
        if not isinstance(step, Step) or step.name in work.names:
            raise InvalidWork("steps")
        if not is_sequence(after):
            raise InvalidWork("ahead")
        # A thing that is no name of another step makes a wrong pair, with which there is no work.
        wider = Work([*work.steps, step], [*work.ahead, *[(name, step.name) for name in after]])
        self.go_to(self._kitchen.with_work(wider), self._done)

    def undo(self):
        """Takes back the last deed; returns whether there was one."""
        if not self._past:
            return False
        self._kitchen, self._done = self._past[-1]
        self._past = self._past[:-1]
        return True

    def within(self, deed):
        """Calls the deed with the live kitchen, and takes back all that it does; returns what it returns."""
        kitchen, done, past = self._kitchen, self._done, self._past
        try:
            return deed(self)
        finally:
            self._kitchen, self._done, self._past = kitchen, done, past

    def __len__(self):
        return len(self._past)

    def go_on(self, names):
        """Does these steps, which can be done; returns the numbers of the limits that are reached by them."""
        done = (*self._done, *names)
        found = reached_from(self._kitchen, steps_in_turn(self._kitchen.work, done), len(self._done))
        self.go_to(self._kitchen, done)
        return found

    def go_to(self, kitchen, done):
        """Notes what is so behind a deed, and what was so ahead of it."""
        self._past = (*self._past, (self._kitchen, self._done))
        self._kitchen = kitchen
        self._done = done
