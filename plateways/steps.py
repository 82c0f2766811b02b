"""Steps: what is done at some places, and what it leads from one to another."""

from plateways.basics import is_name, is_number, is_sequence
from plateways.errors import InvalidStep, InvalidText, NoPlace
from plateways.texts import number_told


class Step:
    """A step touches places, and leads what is in some of them on, perhaps with a loss."""

    def __init__(self, name, places, arrows=()):
        if not is_name(name):
            raise InvalidStep("name")
        if not are_places(places):
            raise InvalidStep("places")
        if not are_arrows(arrows, places):
            raise InvalidStep("arrows")
        self.name = name
        self.places = tuple(sorted(places))
        self.arrows = tuple(sorted(arrows))

    @classmethod
    def read(cls, text):
        """The step that a text tells."""
        parts = step_told(text)
        if parts is None:
            raise InvalidText(0)
        name, places, arrows = parts
        return cls(name, places, arrows)

    def loss(self, start, end):
        """The loss of the arrow between these places, None if there is none."""
        for one, other, less in self.arrows:
            if one == start and other == end:
                return less
        return None

    def washed(self, place):
        """The step without the arrows that start at this place."""
        if place not in self.places:
            raise NoPlace(place)
        return Step(self.name, self.places, [arrow for arrow in self.arrows if arrow[0] != place])

    def __eq__(self, other):
        return isinstance(other, Step) and str(self) == str(other)

    def __str__(self):
        words = [self.name, "at", *self.places]
        if self.arrows:
            words = [*words, "go", ", ".join([f"{start} {end} {less}" for start, end, less in self.arrows])]
        return " ".join(words)


def are_places(value):
    """Whether any value is a sequence of at least one name, all unlike."""
    if not is_sequence(value) or not value or not all([is_name(place) for place in value]):
        return False
    return len(set(value)) == len(value)


def are_arrows(value, places):
    """Whether any value is a sequence of arrows between these places, no two between the same ones."""
    if not is_sequence(value) or not all([is_arrow(arrow, places) for arrow in value]):
        return False
    return len({(arrow[0], arrow[1]) for arrow in value}) == len(value)


def is_arrow(value, places):
    """Whether any value is an arrow between these places."""
    if not isinstance(value, tuple) or len(value) != 3:
        return False
    return value[0] in places and value[1] in places and is_number(value[2])


def leads_from(step, place):
    """Whether the step has an arrow that starts at the place."""
    return place in [arrow[0] for arrow in step.arrows]


def step_told(line):
    """Name, places and arrows as a line tells them, right or wrong; None if it is not of this form."""
    head, mark, tail = line.partition(" go ")
    words = head.split(" ")
    if len(words) < 3 or words[1] != "at":
        return None
    if not is_name(words[0]) or not all([is_name(word) for word in words[2:]]):
        return None
    arrows = [arrow_told(part) for part in tail.split(", ")] if mark else []
    if None in arrows:
        return None
    return words[0], words[2:], arrows


def arrow_told(part):
    """Start, end and loss as a part of a line tells them; None if it is not of this form."""
    words = part.split(" ")
    if len(words) != 3 or not is_name(words[0]) or not is_name(words[1]):
        return None
    less = number_told(words[2])
    if less is None:
        return None
    return words[0], words[1], less
