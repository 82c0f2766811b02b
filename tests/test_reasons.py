"""[15]: reasons that a way can't happen."""

import random
import unittest

from examples import WAY, any_values, closed_plainly, example, fenced_example, nested, row_and_places, some_works, ways_and_lasts
from plateways.errors import InvalidWay
from plateways.reasons import all_lines, reason, reason_holds
from plateways.steps import Step
from plateways.ways import can_happen
from plateways.works import Work

TOLD = (("chop", "wash", "work", ()), ("cut", "wash", "behind", (0,)), ("wash", "cut", "work", ()),
        ("cut", "cut", "join", (1, 2)))


def line_holds(work, way, last, lines, at):
    """Whether a line of real names follows by its rule from earlier lines, looked at plainly."""
    one, other, rule, told = lines[at]
    row, places = row_and_places(way, last)
    touched = {step.name: step.places for step in work.steps}
    if any(number.__class__ is not int or not 0 <= number < at for number in told):
        return False
    before = [lines[number][:2] for number in told]
    needs = {"work": 0, "way": 0, "first": 0, "join": 2, "before": 1, "behind": 1}
    if rule.__class__ is not str or needs.get(rule) != len(told):
        return False
    if rule == "work":
        return (one, other) in work.ahead
    if rule == "way":
        return (one, other) in list(zip(row, row[1:]))
    if rule == "first":
        return row[:1] == [one] and one != other and places[0] in touched[other]
    if rule == "join":
        return before[0][1] == before[1][0] and (one, other) == (before[0][0], before[1][1])
    for brings, takes, place in zip(row, row[1:], places[1:]):
        wash = one if rule == "before" else other
        free = wash not in (brings, takes) and place in touched[wash]
        if free and rule == "before" and other == brings and before[0] == (one, takes):
            return True
        if free and rule == "behind" and one == takes and before[0] == (brings, other):
            return True
    return False


def holds(work, way, last, value):
    """Whether any value is a reason, looked at plainly."""
    if value.__class__ is not tuple or not value:
        return False
    for line in value:
        if line.__class__ is not tuple or len(line) != 4 or line[3].__class__ is not tuple:
            return False
        if not all(name.__class__ is str and name in work.names for name in line[:2]):
            return False
    return value[-1][0] == value[-1][1] and all(line_holds(work, way, last, value, at) for at in range(len(value)))


def ways_that_cannot_happen(seed, many):
    found = []
    for work in some_works(seed, many):
        cases = [(work, way, last) for way, last in ways_and_lasts(work) if not can_happen(work, way, last)]
        found.extend(cases[::max(1, len(cases) // 4)])
    return found


class ReasonTest(unittest.TestCase):

    def test_the_example(self):
        self.assertIsNone(reason(example(), WAY))
        self.assertTrue(reason_holds(fenced_example(), WAY, None, reason(fenced_example(), WAY)))

    def test_just_where_the_way_cannot_happen(self):
        many = [0, 0]
        rules = set()
        for work in some_works(63, 150):
            for way, last in ways_and_lasts(work)[:50]:
                told = reason(work, way, last)
                ring = any(one == other for one, other in closed_plainly(work, way, last))
                many[ring] += 1
                if not ring:
                    self.assertIsNone(told)
                    continue
                self.assertTrue(holds(work, way, last, told), f"{work}\n{way} {last}\n{told}")
                self.assertIs(reason_holds(work, way, last, told), True)
                self.assertLessEqual(len(told), 500)
                rules |= {line[2] for line in told}
        self.assertGreater(min(many), 500)
        self.assertEqual(rules, {"work", "way", "first", "join", "before", "behind"})

    def test_it_is_a_tuple_of_tuples(self):
        for work, way, last in ways_that_cannot_happen(19, 40):
            told = reason(work, way, last)
            self.assertIs(told.__class__, tuple)
            for line in told:
                self.assertIs(line.__class__, tuple)
                self.assertIs(line[3].__class__, tuple)

    def test_each_line_is_needed(self):
        for work, way, last in ways_that_cannot_happen(20, 40):
            told = reason(work, way, last)
            used = {number for line in told for number in line[3]}
            self.assertEqual(used, set(range(len(told) - 1)))

    def test_lines_are_found_for_all_closed_pairs(self):
        # A reason is picked from these lines, so with all of them none is missed, however long it is.
        for work in some_works(29, 80):
            for way, last in ways_and_lasts(work)[:40]:
                lines = all_lines(work, way, last)
                self.assertEqual(tuple(sorted(line[:2] for line in lines)), closed_plainly(work, way, last))
                for at in range(len(lines)):
                    self.assertTrue(line_holds(work, way, last, lines, at))

    def test_works_of_more_steps(self):
        for work in some_works(37, 10, 7):
            cases = ways_and_lasts(work)
            for way, last in cases[::max(1, len(cases) // 60)]:
                told = reason(work, way, last)
                self.assertIs(told is None, can_happen(work, way, last))
                self.assertIs(told is not None and holds(work, way, last, told), told is not None)

    def test_long_ones(self):
        names = [one + other for one in "abcdef" for other in "vwxyz"]
        work = Work([Step(name, ["pan"], [("pan", "pan", 0)]) for name in names],
                    [(names[29], names[0]), *[(names[at], names[at + 1]) for at in range(10, 29)]])
        way = ("pan", *[(name, "pan") for name in names[:11]])
        told = reason(work, way)
        self.assertTrue(holds(work, way, None, told))
        self.assertTrue(reason_holds(work, way, None, told))


class HoldsTest(unittest.TestCase):

    def holds(self, value, known, work=None, way=WAY, last=None):
        shape = fenced_example() if work is None else work
        self.assertIs(reason_holds(shape, way, last, value), known, value)
        self.assertIs(holds(shape, way, last, value), known, value)

    def test_the_example(self):
        self.holds(TOLD, True)
        self.holds(TOLD, False, example())

    def test_lists_are_no_reasons(self):
        self.holds(list(TOLD), False)
        self.holds(tuple(list(line) for line in TOLD), False)
        self.holds(tuple((*line[:3], list(line[3])) for line in TOLD), False)

    def test_the_last_line(self):
        self.holds((), False)
        for many in range(4):
            self.holds(TOLD[:many], False)
        self.holds((*TOLD, TOLD[0]), False)
        self.holds((*TOLD, TOLD[3]), True)
        self.holds((TOLD[0], *TOLD), False)

    def test_unneeded_lines_and_rings_ahead(self):
        self.holds((*TOLD[:3], ("chop", "cut", "way", ()), TOLD[3]), True)
        self.holds((*TOLD[:3], TOLD[0], TOLD[3]), True)
        self.holds((*TOLD, ("cut", "cut", "join", (3, 3))), True)
        self.holds((*TOLD, ("cut", "wash", "join", (3, 1)), ("cut", "cut", "join", (4, 2))), True)

    def test_lines_in_another_order(self):
        self.holds((TOLD[2], TOLD[0], ("cut", "wash", "behind", (1,)), ("cut", "cut", "join", (2, 0))), True)
        self.holds((TOLD[0], TOLD[1], TOLD[2], ("cut", "cut", "join", (2, 1))), False)
        self.holds((TOLD[0], TOLD[1], TOLD[2], ("wash", "wash", "join", (2, 1))), True)
        self.holds((TOLD[1], TOLD[0], TOLD[2], TOLD[3]), False)

    def test_each_rule(self):
        work = Work.read("a at p q go p q 0\nb at q r go q r 0\nv at q\nw at q\nz at p\nahead a v\nahead w b")
        way = ("p", ("a", "q"), ("b", "r"))
        end = (("w", "b", "work", ()), ("w", "a", "before", (0,)))
        good = (("a", "b", "way", ()), ("a", "v", "work", ()), ("b", "v", "behind", (1,)), ("a", "z", "first", ()),
                ("w", "b", "work", ()), ("w", "a", "before", (4,)), ("w", "b", "join", (5, 0)))
        for at, line in enumerate(good):
            self.assertTrue(line_holds(work, way, None, good, at))
        ring = work.fenced([("a", "w")])
        tail = (("a", "w", "work", ()), ("w", "w", "join", (5, 7)))
        self.holds((*good, *tail), True, ring, way)
        self.holds((*end, ("a", "w", "work", ()), ("a", "a", "join", (2, 1))), True, ring, way)
        wrong = (
            ("b", "a", "way", ()), ("a", "w", "way", ()), ("a", "b", "work", ()), ("b", "v", "work", ()),
            ("w", "a", "work", ()), ("a", "b", "first", ()), ("a", "a", "first", ()), ("b", "z", "first", ()),
            ("z", "a", "first", ()), ("a", "v", "first", ()), ("b", "v", "before", (1,)), ("w", "a", "behind", (4,)),
            ("a", "b", "behind", (0,)), ("b", "b", "behind", (0,)), ("a", "a", "before", (0,)), ("z", "a", "before", (4,)),
            ("b", "z", "behind", (3,)), ("w", "b", "before", (4,)), ("a", "v", "join", (0,)), ("a", "v", "join", ()),
            ("a", "v", "join", (2, 0)), ("a", "v", "join", (0, 2, 2)), ("a", "v", "work", (0,)), ("a", "b", "way", (0,)),
            ("a", "z", "first", (0,)), ("w", "a", "before", (4, 4)), ("w", "a", "before", ()), ("b", "v", "behind", ()),
            ("b", "v", "behind", (1, 1)), ("b", "v", "behind", (0,)), ("w", "a", "before", (5,)), ("a", "z", "join", (0, 3)),
            ("b", "w", "behind", (4,)),
        )
        tail = (("a", "w", "work", ()), ("w", "w", "join", (5, 8)))
        for line in wrong:
            self.holds((*good, line, *tail), False, ring, way)
            self.assertFalse(line_holds(work, way, None, (*good, line), 7), line)
        self.holds((*good, ("a", "v", "join", (0, 2)), *tail), True, ring, way)
        self.holds((*good, good[2], *tail), True, ring, way)

    def test_a_step_of_the_way_that_touches_another_of_its_places(self):
        work = Work.read("a at p go p p 0\nb at p go p p 0\nc at p go p p 0\nahead c b")
        way = ("p", ("a", "p"), ("b", "p"), ("c", "p"))
        told = (("c", "b", "work", ()), ("c", "a", "before", (0,)), ("a", "c", "first", ()), ("a", "a", "join", (2, 1)))
        self.holds(told, True, work, way)
        self.holds((("b", "c", "way", ()), ("c", "b", "work", ()), ("b", "b", "join", (0, 1))), True, work, way)

    def test_with_a_last_step(self):
        work = Work.read("a at p q go p q 0\nb at q\nc at q\nahead a b\nahead b c")
        way = ("p", ("a", "q"))
        told = (("a", "b", "work", ()), ("c", "b", "behind", (0,)), ("b", "c", "work", ()), ("b", "b", "join", (2, 1)))
        self.holds(told, True, work, way, "c")
        self.holds(told, False, work, way, "b")
        self.holds(told, False, work, way, None)
        told = (("c", "b", "first", ()), ("b", "c", "work", ()), ("c", "c", "join", (0, 1)))
        self.holds(told, True, work, ("q",), "c")
        self.holds(told, False, work, ("q",), "a")
        self.holds(told, False, work, ("q",), None)

    def test_numbers_of_lines(self):
        for numbers in ((1, 3), (1, 4), (1, -2), (-3, -2), (1, None), (True, 2), (1, "2"), (1, (2,)), (1, [2]), (1,), (2,),
                        (), (1, 2, 2), (2, 1), (10 ** 18, 2), (1, 10 ** 18), ((1, 2),), (1, False)):
            self.holds((*TOLD[:3], ("cut", "cut", "join", numbers)), False)
        for numbers in ((False,), (1,), (-3,), (None,), ("0",), (0, 0), (), ((0,),)):
            self.holds((TOLD[0], ("cut", "wash", "behind", numbers), *TOLD[2:]), False)
        self.holds((*TOLD[:3], ("cut", "cut", "join", [1, 2])), False)
        self.holds((*TOLD[:3], ("cut", "cut", "join", 1)), False)
        self.holds((*TOLD[:3], ("cut", "cut", "join", None)), False)

    def test_any_values(self):
        for value in (*any_values(), nested(8), [nested(7)], fenced_example()):
            self.holds(value, False)
            self.holds((value,), False)
            self.holds((*TOLD, value), False)
            self.holds((value, *TOLD), False)
            for at, line in enumerate(TOLD):
                self.holds((*TOLD[:at], value, *TOLD[at + 1:]), False)
                for part in range(4):
                    if value == line[part] and value.__class__ is line[part].__class__:
                        continue
                    other = (*line[:part], value, *line[part + 1:])
                    self.holds((*TOLD[:at], other, *TOLD[at + 1:]), False)
                self.holds((*TOLD[:at], (*line, value), *TOLD[at + 1:]), False)
                self.holds((*TOLD[:at], line[:3], *TOLD[at + 1:]), False)

    def test_equal_things_of_another_kind(self):
        self.holds((TOLD[0], ("cut", "wash", "behind", (False,)), *TOLD[2:]), False)
        self.holds((*TOLD[:3], ("cut", "cut", "join", (True, 2))), False)

    def test_reasons_with_some_things_otherwise(self):
        chance = random.Random(2)
        many = {True: 0, False: 0}
        for work, way, last in ways_that_cannot_happen(5, 100):
            told = reason(work, way, last)
            for _ in range(12):
                value = changed(chance, work, told)
                known = holds(work, way, last, value)
                self.assertIs(reason_holds(work, way, last, value), known, f"{work}\n{way} {last}\n{value}")
                many[known] += 1
        self.assertGreater(min(many.values()), 100)

    def test_reasons_of_other_ways(self):
        cases = ways_that_cannot_happen(71, 30)
        for work, way, last in cases:
            told = reason(work, way, last)
            for other, end in ways_and_lasts(work)[::7]:
                self.assertIs(reason_holds(work, other, end, told), holds(work, other, end, told))
                if can_happen(work, other, end):
                    self.assertFalse(reason_holds(work, other, end, told))

    def test_many_lines(self):
        work = fenced_example()
        told = (*TOLD, *[("cut", "cut", "join", (at, 3)) for at in range(3, 600)])
        self.assertTrue(reason_holds(work, WAY, None, told))
        self.assertFalse(reason_holds(work, WAY, None, (*told, ("cut", "cut", "join", (601, 3)))))

    def test_invalid_ways_come_ahead(self):
        for value in (*any_values(), TOLD):
            for way, last, at in ((list(WAY), None, 0), ((), None, 0), (("nuts", ("cut", "plate")), None, 1),
                                  (WAY, "cut", 3), (WAY, "wash", 3), (WAY, True, 3)):
                with self.assertRaises(InvalidWay) as caught:
                    reason_holds(fenced_example(), way, last, value)
                self.assertEqual(caught.exception.at, at)


def changed(chance, work, told):
    """A reason with a line out, exchanged or twice, or with one thing otherwise."""
    lines = list(told)
    at, to = chance.randrange(len(lines)), chance.randrange(len(lines))
    kind = chance.randint(0, 5)
    if kind == 0:
        del lines[at]
    elif kind == 1:
        lines[at], lines[to] = lines[to], lines[at]
    elif kind == 2:
        lines.insert(chance.randint(at, len(lines)), lines[at])
    else:
        line = list(lines[at])
        part = chance.randint(0, 3)
        if part < 2:
            line[part] = chance.choice(work.names)
        elif part == 2:
            line[2] = chance.choice(("work", "way", "first", "join", "before", "behind"))
        else:
            numbers = [chance.randint(-1, at + 1) for _ in line[3]]
            line[3] = tuple(numbers + [0] * (chance.random() < 0.2))
        lines[at] = tuple(line)
    return tuple(lines)


if __name__ == "__main__":
    unittest.main()
