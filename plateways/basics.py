"""What kind of value a value is."""

LETTERS = "abcdefghijklmnopqrstuvwxyz"
LONGEST_NAME = 6
# These words tell the parts of a text apart, so nothing else is called so.
KEPT_WORDS = ("at", "go", "ahead", "trace", "limit", "work")


def is_integer(value):
    """Whether any value is an integer; True and False are none."""
    return isinstance(value, int) and not isinstance(value, bool)


def is_number(value):
    """Whether any value is an integer from 0 on."""
    return is_integer(value) and value >= 0


def is_level(value):
    """Whether any value is a level of a trace that is there: an integer from 1 on."""
    return is_integer(value) and value >= 1


def is_name(value):
    """Whether any value is a name of a step, a place or a trace."""
    if not isinstance(value, str) or not 1 <= len(value) <= LONGEST_NAME:
        return False
    return value not in KEPT_WORDS and all([letter in LETTERS for letter in value])


def is_sequence(value):
    """Whether any value is a list or a tuple."""
    return isinstance(value, (list, tuple))


def is_pair_of(names, value):
    """Whether any value is a pair of two unlike ones of these names."""
    if not isinstance(value, tuple) or len(value) != 2:
        return False
    return value[0] in names and value[1] in names and value[0] != value[1]
