"""What words and lines of a text tell; what they can't tell is None."""

from plateways.basics import is_name

DIGITS = "0123456789"
MOST_DIGITS = 19


def number_told(word):
    """The number that a word tells in decimal digits, without leading zeros."""
    if not 1 <= len(word) <= MOST_DIGITS or not all([digit in DIGITS for digit in word]):
        return None
    if len(word) > 1 and word[0] == "0":
        return None
    return int(word)


def pair_told(line):
    """The two names that a line tells behind the word ahead."""
    words = line.split(" ")
    if len(words) != 3 or words[0] != "ahead" or not is_name(words[1]) or not is_name(words[2]):
        return None
    return words[1], words[2]


def rows_told(lines, at, told):
    """What each line from number at on tells by this function, up to the first one that tells nothing."""
    rows = []
    for line in lines[at:]:
        row = told(line)
        if row is None:
            return rows
        rows.append(row)
    return rows
