"""[16], [17]: several ways in one order; [12] for each of them."""

import random
import unittest
from itertools import permutations

from examples import (WAY, any_values, example, fenced_example, happens, orders, plain, row_and_places, some_works,
                      ways_and_lasts)
from plateways.errors import InvalidWay
from plateways.steps import Step
from plateways.together import first_row, order_of_all, together
from plateways.ways import can_happen
from plateways.works import Work, is_order

CALLS = (together, order_of_all, first_row)
TOSSED = ("nuts", ("chop", "board"), ("toss", "bowl"))


def rows_of(work, several, order):
    """The steps of all ways as they stand in an order."""
    ours = {name for way, last in several for name in row_and_places(way, last)[0]}
    return tuple(name for name in order if name in ours)


def first_row_by_closing(work, several):
    """The first row by the numbers of the steps that closes without a ring, as [17] tells, gone over plainly."""
    rows = [row_and_places(way, last) for way, last in several]
    ours = sorted({name for row, _ in rows for name in row}, key=work.names.index)
    touched = {step.name: step.places for step in work.steps}
    for row in permutations(ours):
        if all([row.index(name) for name in part] == sorted(row.index(name) for name in part) for part, _ in rows):
            pairs = set(work.ahead) | set(zip(row, row[1:]))
            for part, places in rows:
                pairs |= set(zip(part, part[1:]))
                pairs |= {(part[0], name) for name in work.names if part and name != part[0] and places[0] in touched[name]}
            if not has_ring_plainly(work, rows, pairs, touched):
                return row
    return None


def has_ring_plainly(work, rows, pairs, touched):
    many = -1
    while many < len(pairs):
        many = len(pairs)
        pairs |= {(one, end) for one, middle in pairs for other, end in pairs if middle == other}
        for part, places in rows:
            for brings, takes, place in zip(part, part[1:], places[1:]):
                for name in work.names:
                    if place in touched[name] and name not in (brings, takes):
                        pairs |= {(name, brings)} if (name, takes) in pairs else set()
                        pairs |= {(takes, name)} if (brings, name) in pairs else set()
    return any(one == other for one, other in pairs)


class TogetherTest(unittest.TestCase):

    def check(self, work, several, rows):
        """All three functions against the orders of the work; whether there is one."""
        known = [row for row in rows if all(happens(work, way, last, row) for way, last in several)]
        where = f"{work}\n{several}"
        self.assertIs(together(work, several), bool(known), where)
        order, row = order_of_all(work, several), first_row(work, several)
        if not known:
            self.assertIsNone(order, where)
            self.assertIsNone(row, where)
            return False
        self.assertIs(order.__class__, tuple)
        self.assertIn(order, known, where)
        firsts = [rows_of(work, several, told) for told in known]
        self.assertIs(row.__class__, tuple)
        self.assertEqual(row, min(firsts, key=lambda told: [work.names.index(name) for name in told]), where)
        return True

    def test_the_example(self):
        work = example()
        both = [(WAY, "serve"), (TOSSED, None)]
        self.assertIs(together(work, both[1:]), True)
        self.assertIs(together(work, both), False)
        self.assertIsNone(order_of_all(work, both))
        self.assertIsNone(first_row(work, both))
        self.assertEqual(first_row(work, [(WAY, None), (("bowl", ("toss", "bowl")), None)]), ("chop", "cut", "toss"))
        rows = orders(work.names, work.ahead)
        for several in (both, both[:1], both[1:], [(WAY, None), (("bowl", ("toss", "bowl")), None)]):
            self.check(work, several, rows)

    def test_each_pair_of_ways_of_the_example(self):
        for work in (example(), fenced_example()):
            rows = orders(work.names, work.ahead)
            ways = ways_and_lasts(work)[::5]
            found = [self.check(work, [one, other], rows) for one in ways for other in ways]
            self.assertEqual(set(found), {True, False})

    def test_against_all_orders(self):
        chance = random.Random(30)
        for many in (1, 2, 3):
            found = {True: 0, False: 0}
            for work in some_works(100 + many, 160):
                rows = orders(work.names, work.ahead)
                ways = ways_and_lasts(work)
                for _ in range(12):
                    found[self.check(work, [chance.choice(ways) for _ in range(many)], rows)] += 1
            self.assertGreater(min(found.values()), 300)

    def test_ways_that_can_happen_alone(self):
        # With these it takes both ways to make a ring.
        chance = random.Random(31)
        found = {True: 0, False: 0}
        for work in some_works(7, 120):
            rows = orders(work.names, work.ahead)
            ways = [(way, last) for way, last in ways_and_lasts(work) if can_happen(work, way, last)]
            for many in (2, 2, 2, 3, 3, 3):
                found[self.check(work, [chance.choice(ways) for _ in range(many)], rows)] += 1
        self.assertGreater(min(found.values()), 100)

    def test_works_of_more_steps(self):
        chance = random.Random(32)
        found = set()
        for work in some_works(8, 14, 7):
            rows = orders(work.names, work.ahead)
            ways = [(way, last) for way, last in ways_and_lasts(work) if can_happen(work, way, last)]
            found |= {self.check(work, [chance.choice(ways) for _ in range(3)], rows) for _ in range(3)}
        self.assertEqual(found, {True, False})

    def test_against_closing_row_by_row(self):
        chance = random.Random(33)
        for work in some_works(9, 40, 6):
            ways = ways_and_lasts(work)
            for _ in range(3):
                several = [chance.choice(ways), chance.choice(ways)]
                if len(rows_of(work, several, work.names)) < 6:
                    self.assertEqual(first_row(work, several), first_row_by_closing(work, several), f"{work}\n{several}")

    def test_one_way_as_alone(self):
        for work in some_works(10, 40):
            for way, last in ways_and_lasts(work)[:40]:
                self.assertIs(together(work, [(way, last)]), can_happen(work, way, last))

    def test_ways_without_steps(self):
        work = example()
        self.assertEqual(first_row(work, [(("nuts",), None)]), ())
        self.assertEqual(first_row(work, [(("moon",), None), (("board",), None)]), ())
        self.assertTrue(is_order(work, order_of_all(work, [(("moon",), None)])))
        self.assertEqual(first_row(work, [(("board",), "wash"), (("moon",), None)]), ("wash",))
        self.assertIsNone(first_row(work, [(("board",), "wash"), (("board",), "cut")]))

    def test_a_way_twice(self):
        work = example()
        self.assertEqual(first_row(work, [(WAY, "serve"), (WAY, "serve"), (WAY, None)]), ("chop", "cut", "serve"))

    def test_a_last_step_that_is_a_hop_of_another_way(self):
        work = Work.read("a at p q go p q 0, p p 0\nb at p q go p p 0, q q 0\nc at q go q q 0")
        several = [(("p", ("a", "p")), "b"), (("p", ("a", "q"), ("b", "q")), "c")]
        self.assertEqual(first_row(work, several), ("a", "b", "c"))
        several = [(("p", ("b", "p")), "a"), (("p", ("a", "q"), ("b", "q")), "c")]
        self.assertIs(together(work, several), False)

    def test_the_row_is_the_first_by_numbers_not_by_names(self):
        work = Work.read("z at p go p p 0\ny at q go q q 0\nx at r go r r 0")
        several = [(("q", ("y", "q")), None), (("r", ("x", "r")), None), (("p", ("z", "p")), None)]
        self.assertEqual(first_row(work, several), ("z", "y", "x"))
        self.assertEqual(first_row(work.fenced([("x", "z")]), several), ("y", "x", "z"))

    def test_steps_between_that_are_in_no_way(self):
        work = Work.read("a at p go p p 0\nb at q go q q 0\nw at p q\nahead a w\nahead w b")
        self.assertEqual(order_of_all(work, [(("p", ("a", "p")), None)]), ("a", "w", "b"))
        self.assertIsNone(first_row(work, [(("p", ("a", "p")), None), (("q", ("b", "q")), None)]))
        self.assertEqual(first_row(work, [(("p", ("a", "p")), None), (("q",), "w")]), ("a", "w"))


class InvalidTest(unittest.TestCase):

    def wrong(self, at, work, several):
        for call in CALLS:
            for shape in (list, tuple):
                with self.assertRaises(InvalidWay) as caught:
                    call(work, shape(several))
                self.assertEqual(caught.exception.at, at, several)

    def test_any_values_for_a_way(self):
        work = Work([Step("cut", ["board"], [("board", "board", 0)])])
        for value in any_values():
            if value.__class__ is tuple and value and value[0].__class__ is str and value[0] in ("cut", "board", "nut"):
                at = 0 if len(value) == 1 or value == ("board", ("cut", "board")) else 1
            else:
                at = 0
            if at == 0 and value in (("cut",), ("board", ("cut", "board"))):
                self.assertTrue(together(work, [(value, None)]))
            else:
                self.wrong(at, work, [(value, None)])
                self.wrong(at, work, [(value, "cut")])
                self.wrong(at, work, [(("board",), "cut"), (value, value)])
                self.wrong(at, work, [(("board",), "cut"), (value, None), (None, None)])

    def test_any_values_for_a_hop(self):
        work = example()
        for value in (*any_values(), ("chop", "nuts"), ["cut", "plate"], ("serve", "plate"), ("chop", "board")):
            if value != ("cut", "board"):
                self.wrong(2, work, [(("nuts", ("chop", "board"), value), None)])
                self.wrong(2, work, [(WAY, "serve"), (("nuts", ("chop", "board"), value, ("cut", "plate")), "serve")])

    def test_any_values_for_a_last_step(self):
        work = example()
        for value in (*any_values(), "chop", "toss", "wash", ("serve",), work.step("serve"), 2):
            if value is not None and value != "serve":
                self.wrong(3, work, [(WAY, value)])
                self.wrong(3, work, [(WAY, "serve"), (WAY, value), ((), None)])
        self.wrong(1, work, [(WAY, None), (("moon",), "chop")])
        self.wrong(2, work, [(("board", ("cut", "board")), "cut")])

    def test_the_first_wrong_one(self):
        work = example()
        self.wrong(3, work, [(WAY, "cut"), ((), None)])
        self.wrong(0, work, [(WAY, None), ((), "cut"), (WAY, "cut")])
        self.wrong(1, work, [(WAY, None), (("nuts", ("cut", "plate")), "moon"), (list(WAY), None)])
        self.wrong(0, work, [(WAY, None), (WAY, None), (list(WAY), None)])

    def test_what_is_no_pair(self):
        work = example()
        for value in (*any_values(), WAY, (WAY,), (WAY, None, None), [WAY, None]):
            if value.__class__ is not tuple or len(value) != 2:
                self.wrong(0, work, [value])
                self.wrong(0, work, [(WAY, "serve"), value, (WAY, "cut")])

    def test_ways_that_cannot_happen_are_no_wrong_ones(self):
        work = fenced_example()
        self.assertIs(together(work, [(WAY, None)]), False)
        self.wrong(0, work, [(WAY, None), (None, None)])


class SizeTest(unittest.TestCase):

    def holds(self, work, several):
        order = order_of_all(work, several)
        self.assertTrue(is_order(work, order))
        for way, last in several:
            self.assertTrue(happens(work, way, last, order))
        self.assertIs(together(work, several), True)
        return first_row(work, several)

    def three_ways(self, many, beside):
        """Three ways of many steps each, at places of their own, with as many steps beside them, all at one place."""
        rows = [[one + other for other in "abcdefghijklm"[:many]] for one in "xyz"]
        steps = [Step(name, [name[0], "pan"], [(name[0], name[0], 0)]) for row in rows for name in row]
        steps = steps + [Step(f"w{one}", ["pan"], [("pan", "pan", 0)]) for one in "abcdefghijk"[:beside]]
        return steps, [((row[0][0], *[(name, row[0][0]) for name in row[:-1]]), row[-1]) for row in rows]

    def test_nine_steps_of_twenty(self):
        steps, several = self.three_ways(3, 11)
        self.assertEqual(self.holds(Work(steps), several), tuple(step.name for step in steps[:9]))
        late = Work(steps, [("zc", "xa"), *[(f"w{one}", f"w{other}") for one, other in zip("kjihgfedcb", "jihgfedcba")]])
        self.assertEqual(self.holds(late, several), ("ya", "yb", "yc", "za", "zb", "zc", "xa", "xb", "xc"))

    def test_nine_steps_that_do_not_go_together(self):
        steps, several = self.three_ways(3, 11)
        # Each pair makes one of the steps beside the ways touch a place that is guarded.
        ring = [Step("wa", ["pan", "x"]), Step("wb", ["pan", "y"]), Step("wc", ["pan", "z"]), *steps[12:]]
        pairs = [("xa", "wb"), ("wb", "zc"), ("za", "wa"), ("wa", "yc"), ("ya", "wc"), ("wc", "xc")]
        work = Work([*steps[:9], *ring], pairs)
        for call, known in ((together, False), (order_of_all, None), (first_row, None)):
            self.assertIs(call(work, several), known)
        for pair in (several[:2], several[1:], several[::2]):
            self.assertEqual(self.holds(work, pair), first_row_by_closing(work, pair))

    def test_somewhat_beyond(self):
        steps, several = self.three_ways(5, 9)
        names = tuple(step.name for step in steps[:15])
        self.assertEqual(self.holds(Work(steps), several), names)
        work = Work(steps, [("ze", "xa"), ("xe", "ya"), *[(f"w{one}", f"w{other}") for one, other in zip("abcdefgh", "bcdefghi")]])
        self.assertEqual(self.holds(work, several), names[10:] + names[:10])

    def test_ten_hops(self):
        names = [one + other for one in "bc" for other in "qrstuvwxyz"]
        steps = [Step(name, ["pan", "pot"], [("pan", "pan", 0), ("pot", "pot", 1), ("pan", "pot", 2)]) for name in names]
        work = Work(steps)
        way = ("pan", *[(name, "pan") for name in names[:10]])
        other = ("pot", *[(name, "pot") for name in names[:10]])
        third = ("pan", *[(name, "pan") for name in names[:6]], *[(name, "pot") for name in names[6:10]])
        self.assertEqual(self.holds(work, [(way, names[10]), (other, None), (third, names[10])]), tuple(names[:11]))
        self.assertIs(together(work, [(way, names[10]), (other, names[11])]), False)
        self.assertIs(together(work.fenced([(names[9], names[0])]), [(way, None)]), False)
        self.assertEqual(self.holds(work.fenced([(names[0], names[12])]), [(way, names[10])]), tuple(names[:11]))

    def test_many_steps_at_one_place(self):
        work = plain("abcdefghijklmnopqrst", [("t", "s"), ("b", "c")])
        self.assertEqual(first_row(work, [(("pan",), "t"), (("moon",), None)]), ("t",))
        self.assertIsNone(first_row(work, [(("pan",), "s")]))
        self.assertIsNone(first_row(work, [(("pan",), "t"), (("pan",), "a")]))


if __name__ == "__main__":
    unittest.main()
