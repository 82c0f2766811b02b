"""Desks: a live kitchen that is told by commands what to do."""

from plateways.basics import is_name
from plateways.errors import InvalidCommand
from plateways.kitchens import Kitchen
from plateways.live import Live
from plateways.reaching import harms, worst

# How many names stand behind each word; behind the word kitchen stands a text.
NAMES_BEHIND = {"do": 1, "next": 0, "harms": 0, "worst": 3, "undo": 0}


class Desk:
    """A desk, with its live kitchen if there is one yet."""

    def __init__(self):
        self.live = None

    def say(self, command):
        """Does what the command says; returns a text."""
        words = words_of(command)
        if words[0] == "kitchen":
            return self.begin(command)
        if self.live is None:
            raise InvalidCommand()
        if words[0] == "do":
            return told(self.live.do(words[1]), "fine")
        if words[0] == "next":
            return told(self.live.clean_next, "none")
        if words[0] == "harms":
            return told(harms(self.live.kitchen), "none")
        if words[0] == "worst":
            return str(worst(self.live.kitchen, words[1], words[2], words[3]))
        return "undone" if self.live.undo() else "nothing"

    def begin(self, command):
        """Begins with the kitchen that the command tells; returns the number of its steps."""
        text = command.partition(" ")[2].replace(" ; ", "\n")
        self.live = Live(Kitchen.read(text))
        return str(len(self.live.kitchen.work))


def words_of(command):
    """The words of any value as a command; raises InvalidCommand if it is none."""
    if not isinstance(command, str):
        raise InvalidCommand()
    words = command.split(" ")
    if "" in words or "\n" in command or not is_form(words):
        raise InvalidCommand()
    return words


def is_form(words):
    """Whether the words are of one of the forms of commands."""
    word, *rest = words
    if word == "kitchen":
        return len(rest) > 0
    return word in NAMES_BEHIND and len(rest) == NAMES_BEHIND[word] and all([is_name(name) for name in rest])


def told(things, otherwise):
    """The things, separated by spaces, or another word if there are none."""
    return " ".join([str(thing) for thing in things]) if things else otherwise
