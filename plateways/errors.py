"""The errors of the package. Each keeps what it was made of, whatever that is."""


class PlateError(ValueError):
    """What is wrong with a thing that was passed."""


class InvalidStep(PlateError):
    """No step can be made; the word is the parameter that is wrong."""

    def __init__(self, word):
        self.word = word


class InvalidWork(PlateError):
    """No work can be made; the word is the parameter that is wrong."""

    def __init__(self, word):
        self.word = word


class InvalidKitchen(PlateError):
    """No kitchen can be made; the word is the parameter that is wrong."""

    def __init__(self, word):
        self.word = word


class InvalidBook(PlateError):
    """No book can be made; the word is the parameter that is wrong."""

    def __init__(self, word):
        self.word = word


class InvalidText(PlateError):
    """A text is not of its form, from this line on."""

    def __init__(self, at):
        self.at = at


class InvalidRow(PlateError):
    """A row of steps, or a log, is wrong at this index."""

    def __init__(self, at):
        self.at = at


class InvalidWay(PlateError):
    """A way is wrong at this index."""

    def __init__(self, at):
        self.at = at


class InvalidStory(PlateError):
    """A story is wrong at this index."""

    def __init__(self, at):
        self.at = at


class InvalidCommand(PlateError):
    """A desk does not know such a command, or has no live kitchen for it."""


class Refused(PlateError):
    """A live kitchen does not do this step."""

    def __init__(self, at):
        self.at = at


class NoStep(KeyError):
    """There is no step of this name."""

    def __init__(self, name):
        self.name = name


class NoPlace(KeyError):
    """The step does not touch this place."""

    def __init__(self, name):
        self.name = name


class NoLimit(IndexError):
    """There is no limit of this number."""

    def __init__(self, at):
        self.at = at
