"""What words and lines of a text tell; what they can't tell is None."""

from plateways.basics import is_name

DIGITS = "0123456789"
MOST_DIGITS = 19


def number_told(word):
    """The number that a word tells in decimal digits, without leading zeros."""
    if not 1 <= len(word) <= MOST_DIGITS or not all([digit in DIGITS for digit in word]):
        return None
    if len(word) > 1 and word[0] == "0":
        return None
    return int(word)


def pair_told(line):
    """The two names that a line tells behind the word ahead."""
    words = line.split(" ")
    if len(words) != 3 or words[0] != "ahead" or not is_name(words[1]) or not is_name(words[2]):
        return None
    return words[1], words[2]


def trace_told(line):
    """The trace, the place and the level that a line tells behind the word trace."""
    return told_behind("trace", 2, line)


def limit_told(line):
    """The trace, the step, the place and the level that a line tells behind the word limit."""
    return told_behind("limit", 3, line)


def told_behind(word, many, line):
    """As many names, and a number behind them, that a line tells behind this word."""
    words = line.split(" ")
    if len(words) != many + 2 or words[0] != word or not all([is_name(name) for name in words[1:-1]]):
        return None
    level = number_told(words[-1])
    if level is None:
        return None
    return (*words[1:-1], level)


def rows_told(lines, at, told):
    """What each line from number at on tells by this function, up to the first one that tells nothing."""
    rows = []
    for line in lines[at:]:
        row = told(line)
        if row is None:
            return rows
        rows.append(row)
    return rows
