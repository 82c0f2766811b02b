"""Reasons: lines, each of which follows from earlier ones, that show that a way can't happen.

A line (one, other, rule, lines) tells that the one step stands ahead of the other one by this rule, and by
the lines of these numbers.
"""

from plateways.basics import is_number
from plateways.hops import check_way, handovers, row_of


def reason(work, way, last=None):
    """Some reason that the way can't happen, None if it can."""
    check_way(work, way, last)
    lines = all_lines(work, way, last)
    for at, line in enumerate(lines):
        if line[0] == line[1]:
            return needed_lines(lines, at)
    return None


def reason_holds(work, way, last, value):
    """Whether any value is a reason that the way can't happen."""
    check_way(work, way, last)
    if not isinstance(value, tuple) or not value:
        return False
    free = free_lines(work, way, last)
    gaps = handovers(way, last)
    for at, line in enumerate(value):
        if not is_line(line, at) or not follows(work, free, gaps, value, line):
            return False
    return value[-1][0] == value[-1][1]


def is_line(value, at):
    """Whether any value has four parts, the last one of which are numbers of lines ahead of number at."""
    if not isinstance(value, tuple) or len(value) != 4 or not isinstance(value[3], tuple):
        return False
    return all([is_number(number) and number < at for number in value[3]])


def follows(work, free, gaps, lines, line):
    """Whether a line follows from those that it names."""
    told = line[3]
    pairs = [lines[number][:2] for number in told]
    if len(told) == 0:
        return line in free
    if len(told) == 1:
        return line in crossing_lines(work, gaps, pairs[0], told[0])
    if len(told) == 2 and pairs[0][1] == pairs[1][0]:
        return line[:3] == (pairs[0][0], pairs[1][1], "join")
    return False


def free_lines(work, way, last):
    """All lines that follow from no other ones."""
    row = row_of(way, last)
    lines = [(one, other, "work", ()) for one, other in work.ahead]
    lines.extend([(one, other, "way", ()) for one, other in zip(row, row[1:])])
    if row:
        others = [step.name for step in work.steps if way[0] in step.places and step.name != row[0]]
        lines.extend([(row[0], other, "first", ()) for other in others])
    return lines


def crossing_lines(work, gaps, pair, at):
    """All lines that follow from this pair, told by line number at, as no step touches a place between two others."""
    one, other = pair
    found = []
    for giver, taker, place in gaps:
        if other == taker and one not in (giver, taker) and place in work.step(one).places:
            found.append((one, giver, "before", (at,)))
        if one == giver and other not in (giver, taker) and place in work.step(other).places:
            found.append((taker, other, "behind", (at,)))
    return found


def joining_lines(work, numbers, pair):
    """All lines that follow from this pair and another one; the dict tells the numbers of the lines of pairs."""
    one, other = pair
    at = numbers[pair]
    found = []
    for name in work.names:
        if (other, name) in numbers:
            found.append((one, name, "join", (at, numbers[other, name])))
        if (name, one) in numbers:
            found.append((name, other, "join", (numbers[name, one], at)))
    return found


def all_lines(work, way, last):
    """A line for each pair that holds by the rules."""
    gaps = handovers(way, last)
    lines = []
    numbers = {}
    add_new(lines, numbers, free_lines(work, way, last))
    at = 0
    while at < len(lines):
        pair = lines[at][:2]
        add_new(lines, numbers, joining_lines(work, numbers, pair))
        add_new(lines, numbers, crossing_lines(work, gaps, pair, at))
        at += 1
    return lines


def add_new(lines, numbers, more):
    """Puts those lines behind the others that tell a pair not told yet."""
    for line in more:
        pair = line[:2]
        if pair not in numbers:
            numbers[pair] = len(lines)
            lines.append(line)


def needed_lines(lines, at):
    """Line number at and what it needs, one line from another, with the numbers that they have among these."""
    needed = {at: True}
    for number in reversed(range(at + 1)):
        if number in needed:
            for earlier in lines[number][3]:
                needed[earlier] = True
    places = {number: index for index, number in enumerate(sorted(needed))}
    kept = [lines[number] for number in sorted(needed)]
    return tuple([(one, other, rule, tuple([places[number] for number in told])) for one, other, rule, told in kept])
