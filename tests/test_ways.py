"""[11] to [14]: ways, their losses, closing, and whether they can happen."""

import unittest

from examples import (WAY, all_ways, any_values, closed_plainly, example, fenced_example, happens, lasts, orders, plain,
                      some_works, ways_and_lasts)
from plateways.errors import InvalidWay
from plateways.reasons import reason, reason_holds
from plateways.steps import Step
from plateways.ways import can_happen, closed, loss, order_of
from plateways.works import Work, is_order

# Each function of these modules that gets a way, and a last step.
CALLS = (
    closed, can_happen, order_of, reason, lambda work, way, last=None: reason_holds(work, way, last, ()),
    lambda work, way, last=None: reason_holds(work, way, last, (("cut", "cut", "work", ()),)),
)


def long_work(many):
    """A work of many steps; step number k leads from place number k to the next one."""
    names = [one + other for one in "abcdefgh" for other in "uvwxyz"][:many]
    places = [other + one for one in "abcdefgh" for other in "uvwxyz"][:many + 1]
    steps = [Step(name, places[at:at + 2], [(places[at], places[at + 1], 1), (places[at], places[at], 0)])
             for at, name in enumerate(names)]
    return Work(steps), names, places


class LossTest(unittest.TestCase):

    def test_the_example(self):
        self.assertEqual(loss(example(), WAY), 1)
        self.assertEqual(loss(example(), (*WAY, ("serve", "plate"))), 1)

    def test_without_hops(self):
        self.assertEqual(loss(example(), ("nuts",)), 0)
        self.assertEqual(loss(example(), ("moon",)), 0)

    def test_sums(self):
        work = Work.read("a at p q go p q 3, p p 5, q p 7\nb at p q go q q 11, q p 0\nc at p go p p 1000000000000000000")
        self.assertEqual(loss(work, ("p", ("a", "q"))), 3)
        self.assertEqual(loss(work, ("p", ("a", "p"))), 5)
        self.assertEqual(loss(work, ("q", ("a", "p"))), 7)
        self.assertEqual(loss(work, ("p", ("a", "q"), ("b", "q"))), 14)
        self.assertEqual(loss(work, ("p", ("a", "q"), ("b", "p"), ("c", "p"))), 10 ** 18 + 3)

    def test_ways_that_cannot_happen_have_one_too(self):
        self.assertEqual(loss(fenced_example(), WAY), 1)


class InvalidWayTest(unittest.TestCase):

    def wrong(self, at, work, way, last=None):
        for call in CALLS:
            with self.assertRaises(InvalidWay) as caught:
                call(work, way, last)
            self.assertEqual(caught.exception.at, at, (way, last))

    def wrong_way(self, at, work, way):
        with self.assertRaises(InvalidWay) as caught:
            loss(work, way)
        self.assertEqual(caught.exception.at, at, way)
        for last in (None, "cut", "moon", 7):
            self.wrong(at, work, way, last)

    def test_what_is_no_way(self):
        work = Work([Step("cut", ["board"], [("board", "board", 0)])])
        for value in any_values():
            if value == ("board", ("cut", "board")):
                self.assertEqual(loss(work, value), 0)
            elif value.__class__ is tuple and value and value[0].__class__ is str and value[0] in ("board", "cut", "nut"):
                if len(value) > 1:
                    self.wrong_way(1, work, value)
                else:
                    self.assertEqual(loss(work, value), 0)
            else:
                self.wrong_way(0, work, value)

    def test_lists_are_no_ways(self):
        self.wrong_way(0, example(), list(WAY))
        self.wrong_way(0, example(), ["nuts"])
        self.wrong_way(0, example(), [])

    def test_the_first_thing(self):
        for value in (*any_values(), "Nuts", "at", "toolong", ("nuts",)):
            if value.__class__ is str and value in ("a", "cut", "board"):
                self.assertEqual(loss(example(), (value,)), 0)
            else:
                self.wrong_way(0, example(), (value,))
                self.wrong_way(0, example(), (value, ("chop", "board")))

    def test_each_hop(self):
        work = example()
        wrong = (("chop", "nuts"), ["cut", "plate"], ("cut",), ("cut", "plate", 1), ("cut", "bowl"), ("cut", "Plate"),
                 ("fry", "plate"), ("serve", "plate"), ("cut", ["plate"]), (["cut"], "plate"), ("cut", None),
                 (None, "plate"), (work.step("cut"), "plate"), "plate", ("plate", "cut"), ("toss", "plate"),
                 ("wash", "plate"), ("cut", ("plate",)), ("chop", "board"), ("cut", 1), (True, "plate"))
        for value in (*any_values(), *wrong):
            if value != ("cut", "board"):
                self.wrong_way(2, work, ("nuts", ("chop", "board"), value))
                self.wrong_way(2, work, ("nuts", ("chop", "board"), value, None))
        for value in (*any_values(), *wrong):
            if value not in (("chop", "nuts"), ("chop", "board")):
                self.wrong_way(1, work, ("nuts", value, ("cut", "plate")))

    def test_no_step_twice(self):
        work = example()
        self.wrong_way(2, work, ("board", ("cut", "board"), ("cut", "plate")))
        self.wrong_way(3, work, ("board", ("cut", "board"), ("wash", "board"), ("cut", "board")))
        self.wrong_way(3, work, ("board", ("wash", "board"), ("cut", "board"), ("wash", "board"), ("fry", "board")))

    def test_a_step_that_touches_the_place_without_an_arrow_from_it(self):
        work = Work.read("a at p q go q p 0\nb at p")
        self.wrong_way(1, work, ("p", ("a", "q")))
        self.wrong_way(1, work, ("p", ("a", "p")))
        self.wrong_way(1, work, ("p", ("b", "p")))
        self.assertEqual(loss(work, ("q", ("a", "p"))), 0)

    def test_the_first_wrong_thing(self):
        work = example()
        self.wrong_way(1, work, ("nuts", ("fry", "pan"), ("chop", "nuts"), None))
        self.wrong_way(0, work, ("Nuts", ("fry", "pan")))
        self.wrong_way(4, work, ("nuts", ("chop", "board"), ("wash", "board"), ("cut", "plate"), ("toss", "plate")))
        self.wrong_way(2, work, ("nuts", ("chop", "board"), ("cut", "bowl"), ("cut", "bowl")))

    def test_the_last_step(self):
        work = example()
        for value in (*any_values(), "fry", "Cut", ("serve",), ["serve"], work.step("serve"), "chop", "toss", "wash", 2):
            if value is not None:
                self.wrong(3, work, WAY, value)
        self.wrong(1, work, ("board",), "serve")
        self.wrong(1, work, ("moon",), "chop")
        self.wrong(1, work, ("nuts",), "cut")
        self.wrong(2, work, ("board", ("cut", "board")), "cut")
        self.wrong(2, work, ("board", ("cut", "board")), "serve")
        self.wrong(2, work, ("board", ("cut", "board")), False)
        self.wrong(2, work, ("board", ("cut", "board")), 0)
        self.wrong(2, work, ("board", ("cut", "board")), "")
        for last, known in ((None, True), ("chop", True), ("cut", True), ("wash", True), ("toss", False)):
            self.assertIs(can_happen(work, ("board",), last), known)
        for call in CALLS:
            call(work, ("board", ("cut", "board")), "wash")
            call(work, WAY, "serve")

    def test_a_last_step_needs_no_arrow(self):
        work = Work.read("a at p q\nb at q go q q 0")
        self.assertTrue(can_happen(work, ("p",), "a"))
        self.assertTrue(can_happen(work, ("q", ("b", "q")), "a"))

    def test_just_the_ways_are_ways(self):
        for work in some_works(12, 40, 3):
            ways = set(all_ways(work))
            hops = [(name, place) for name in (*work.names, "fry") for place in (*work.places, "moon")]
            rows = [(place,) for place in (*work.places, "moon")]
            rows = rows + [(*row, hop) for row in rows for hop in hops]
            rows = rows + [(*row, hop) for row in rows if len(row) == 2 for hop in hops]
            for row in rows:
                if row in ways:
                    self.assertGreaterEqual(loss(work, row), 0)
                else:
                    at = min(at for at in range(len(row)) if row[:at + 1] not in ways)
                    with self.assertRaises(InvalidWay) as caught:
                        loss(work, row)
                    self.assertEqual(caught.exception.at, at)


class ClosedTest(unittest.TestCase):

    def test_the_example(self):
        self.assertEqual(closed(example(), WAY, "serve"), (
            ("chop", "cut"), ("chop", "serve"), ("chop", "toss"), ("cut", "serve"), ("cut", "toss")))

    def test_without_steps_just_the_work(self):
        for way in (("board",), ("moon",)):
            self.assertEqual(closed(example(), way), (("chop", "toss"), ("cut", "serve")))
        work = plain("abc", [("c", "b"), ("b", "a"), ("c", "b")])
        self.assertEqual(closed(work, ("pan",)), (("b", "a"), ("c", "a"), ("c", "b")))

    def test_first(self):
        work = Work.read("a at p go p p 0\nb at p\nc at q\nd at p q")
        self.assertEqual(closed(work, ("p", ("a", "p"))), (("a", "b"), ("a", "d")))
        self.assertEqual(closed(work, ("p",), "b"), (("b", "a"), ("b", "d")))
        self.assertEqual(closed(work, ("p",)), ())

    def test_before(self):
        work = Work.read("a at p q go p q 0\nb at q r go q r 0\nw at q\nahead w b")
        self.assertEqual(closed(work, ("p", ("a", "q"), ("b", "r"))), (("a", "b"), ("w", "a"), ("w", "b")))

    def test_behind(self):
        work = Work.read("a at p q go p q 0\nb at q r go q r 0\nw at q\nahead a w")
        self.assertEqual(closed(work, ("p", ("a", "q"), ("b", "r"))), (("a", "b"), ("a", "w"), ("b", "w")))

    def test_the_place_behind_the_last_hop_does_not_matter(self):
        work = Work.read("a at p q go p q 0\nb at q r go q r 0\nw at q\nahead a w\nahead w b")
        self.assertEqual(closed(work, ("p", ("a", "q"))), (("a", "b"), ("a", "w"), ("w", "b")))
        self.assertTrue(can_happen(work, ("p", ("a", "q"))))
        self.assertFalse(can_happen(work, ("p", ("a", "q")), "b"))

    def test_rings(self):
        self.assertEqual(closed(plain("ab"), ("pan",), "a"), (("a", "b"),))
        self.assertEqual(closed(plain("ab", [("b", "a")]), ("pan",), "a"), (("a", "a"), ("a", "b"), ("b", "a"), ("b", "b")))

    def test_against_the_rules_gone_over(self):
        rings = others = 0
        for work in some_works(41, 150):
            for way, last in ways_and_lasts(work)[:60]:
                told = closed(work, way, last)
                self.assertEqual(told, closed_plainly(work, way, last), f"{work}\n{way} {last}")
                ring = any(one == other for one, other in told)
                self.assertIs(can_happen(work, way, last), not ring)
                rings += ring
                others += not ring
        self.assertGreater(min(rings, others), 500)


class HappensTest(unittest.TestCase):

    def check(self, work, way, last, rows):
        told = order_of(work, way, last)
        known = [row for row in rows if happens(work, way, last, row)]
        where = f"{work}\n{way} {last}"
        self.assertIs(can_happen(work, way, last), bool(known), where)
        if known:
            self.assertIs(told.__class__, tuple)
            self.assertIn(told, known, where)
        else:
            self.assertIsNone(told, where)
        return bool(known)

    def test_the_example(self):
        work, fenced = example(), fenced_example()
        self.assertIs(can_happen(work, WAY, "serve"), True)
        self.assertIs(can_happen(fenced, WAY), False)
        self.assertIs(can_happen(fenced, ("nuts", ("chop", "board"), ("wash", "board"), ("cut", "plate"))), True)
        self.assertIsNone(order_of(fenced, WAY))
        for shape in (work, fenced):
            rows = orders(shape.names, shape.ahead)
            for way, last in ways_and_lasts(shape):
                self.check(shape, way, last, rows)

    def test_against_all_orders(self):
        many = {True: 0, False: 0}
        for work in some_works(57, 120):
            rows = orders(work.names, work.ahead)
            for way, last in ways_and_lasts(work)[:60]:
                many[self.check(work, way, last, rows)] += 1
        self.assertGreater(min(many.values()), 500)

    def test_with_and_without_a_last_step(self):
        work = Work.read("a at p q go p q 0\nb at q\nc at q\nahead b c")
        self.assertTrue(can_happen(work, ("p", ("a", "q"))))
        self.assertTrue(can_happen(work, ("p", ("a", "q")), "c"))
        self.assertEqual(order_of(work, ("p", ("a", "q")), "c"), ("b", "a", "c"))
        self.assertIn(order_of(work, ("q",), "b"), (("b", "c", "a"), ("b", "a", "c")))
        self.assertIsNone(order_of(work, ("q",), "c"))
        self.assertTrue(is_order(work, order_of(work, ("q",))))

    def test_ways_without_steps_happen_in_each_order(self):
        for work in some_works(6, 20):
            for way in (("moon",), (work.places[0],)):
                self.assertIs(can_happen(work, way), True)
                self.assertTrue(is_order(work, order_of(work, way)))

    def test_many_ways_of_more_steps(self):
        for work in some_works(90, 12, 6):
            rows = orders(work.names, work.ahead)
            ways = all_ways(work)
            for way in ways[::max(1, len(ways) // 25)]:
                for last in lasts(work, way):
                    self.check(work, way, last, rows)


class LongTest(unittest.TestCase):

    def test_ten_hops_in_twenty_steps(self):
        work, names, places = long_work(20)
        way = (places[0], *[(name, place) for name, place in zip(names[:10], places[1:])])
        self.assertEqual(loss(work, way), 10)
        self.assertEqual(closed(work, way, names[10]), closed_plainly(work, way, names[10]))
        told = order_of(work, way, names[10])
        self.assertTrue(is_order(work, told) and happens(work, way, names[10], told))

    def test_beyond_the_limits(self):
        work, names, places = long_work(30)
        way = (places[0], *[(name, place) for name, place in zip(names[:24], places[1:])])
        self.assertEqual(len(closed(work, way, names[24])), 25 * 24 // 2)
        self.assertTrue(happens(work, way, names[24], order_of(work, way, names[24])))
        ring = work.fenced([(names[29], names[0]), (names[23], names[29])])
        self.assertIsNone(order_of(ring, way, names[24]))
        self.assertTrue(reason_holds(ring, way, names[24], reason(ring, way, names[24])))

    def test_all_steps_at_one_place(self):
        names = [one + other for one in "abcde" for other in "vwxyz"]
        work = Work([Step(name, ["pan"], [("pan", "pan", 0)]) for name in names], [(names[20], names[19])])
        way = ("pan", *[(name, "pan") for name in names[:12]])
        told = order_of(work, way, names[12])
        self.assertTrue(happens(work, way, names[12], told) and is_order(work, told))
        self.assertEqual(closed(work, way, names[12]), closed_plainly(work, way, names[12]))
        ring = work.fenced([(names[24], names[5])])
        self.assertEqual(closed(ring, way, names[12]), closed_plainly(ring, way, names[12]))
        self.assertFalse(can_happen(ring, way, names[12]))


if __name__ == "__main__":
    unittest.main()
