"""[19]: the worst levels in all orders, the limits that are reached, and the ways by which they are."""

import unittest

from examples import (any_values, cooked_plainly, fenced_example, happens, kitchen_example, lasts, level_left, all_ways, orders,
                      reached_plainly, some_kitchens, thick_kitchens)
from plateways.cooking import levels, reached
from plateways.errors import NoLimit, NoPlace, NoStep
from plateways.kitchens import Kitchen
from plateways.reaching import harmful_ways, harms, worst, worst_way
from plateways.steps import Step
from plateways.ways import can_happen, loss, order_of
from plateways.works import Work

DENSE = [("p", "p"), ("p", "q"), ("q", "p"), ("q", "q"), ("p", "r"), ("r", "p")]


def kitchen_of(*lines):
    return Kitchen.read("\n".join(lines))


def kitchens(seed, many, most=5):
    return [*some_kitchens(seed, many, most), *thick_kitchens(seed, many, most)]


def worst_plainly(kitchen, behind, trace, step, place):
    return max(now.get((trace, place), 0) for row, now in behind.items() if row + (step,) in behind)


def dense_kitchen(many, less):
    """A kitchen of steps that all touch the same four places, with six arrows each."""
    steps = [Step("abcdefghijkl"[at], ["p", "q", "r", "s"],
                  [(start, end, less * (7 * at + 3 * number)) for number, (start, end) in enumerate(DENSE)])
             for at in range(many)]
    traces = [("nut", "p", 10 ** 6), ("nut", "q", 10 ** 6 - 50), ("nut", "r", 10 ** 6 - 99)]
    return Kitchen(Work(steps), traces, [("nut", "g", "p", 10 ** 6 - 60), ("nut", "f", "s", 1), ("nut", "a", "r", 3)])


class WorstTest(unittest.TestCase):

    def test_the_example(self):
        self.assertEqual(worst(kitchen_example(), "nut", "serve", "plate"), 4)
        self.assertEqual(worst_way(kitchen_example(), "nut", "serve", "plate")[0], "nuts")
        calm = kitchen_example().with_work(fenced_example())
        self.assertEqual(worst(calm, "nut", "serve", "plate"), 1)
        self.assertEqual(worst_way(calm, "nut", "serve", "plate"), ("nuts", ("chop", "board"), ("wash", "board"), ("cut", "plate")))

    def check(self, kitchen, behind, trace, step, place):
        where = f"{kitchen}\n{trace} {step.name} {place}"
        told = worst(kitchen, trace, step.name, place)
        self.assertEqual(told, worst_plainly(kitchen, behind, trace, step.name, place), where)
        way = worst_way(kitchen, trace, step.name, place)
        if told == 0:
            self.assertIsNone(way, where)
            return
        self.assertIs(way.__class__, tuple)
        self.assertTrue(can_happen(kitchen.work, way, step.name), where)
        self.assertEqual(way[-1][1] if len(way) > 1 else way[0], place, where)
        self.assertEqual(level_left(kitchen, trace, way), told, where)
        self.assertEqual(level_left(kitchen, trace, (way[0],)) - loss(kitchen.work, way), told, where)

    def test_against_all_orders(self):
        for kitchen in kitchens(500, 60):
            behind = cooked_plainly(kitchen)
            for trace in ("nut", "egg", "soy", "moth"):
                for step in kitchen.work.steps:
                    for place in step.places:
                        self.check(kitchen, behind, trace, step, place)

    def test_works_of_more_steps(self):
        for kitchen in kitchens(501, 4, 7):
            behind = cooked_plainly(kitchen)
            for step in kitchen.work.steps:
                for place in step.places:
                    self.check(kitchen, behind, "nut", step, place)

    def test_the_order_of_the_way_leaves_the_level(self):
        for kitchen in thick_kitchens(502, 60):
            for step in kitchen.work.steps:
                way = worst_way(kitchen, "nut", step.name, step.places[0])
                if way is not None:
                    order = order_of(kitchen.work, way, step.name)
                    told = levels(kitchen, order[:order.index(step.name)])
                    self.assertIn(("nut", step.places[0], worst(kitchen, "nut", step.name, step.places[0])), told)

    def test_places_without_an_arrow(self):
        kitchen = kitchen_of("cut at a b go a b 1", "fry at b", "trace nut a 5", "trace nut b 2", "limit nut fry b 1")
        self.assertEqual(worst(kitchen, "nut", "fry", "b"), 4)
        self.assertEqual(worst_way(kitchen, "nut", "fry", "b"), ("a", ("cut", "b")))
        self.assertEqual(worst(kitchen, "nut", "cut", "b"), 2)
        self.assertEqual(worst_way(kitchen, "nut", "cut", "b"), ("b",))
        self.assertEqual(harms(kitchen), ())

    def test_traces_that_are_nowhere(self):
        kitchen = kitchen_example()
        for trace, step, place in (("soy", "serve", "plate"), ("egg", "serve", "plate"), ("nut", "toss", "bowl"), ("egg", "chop", "nuts")):
            self.assertEqual(worst(kitchen, trace, step, place), 0)
            self.assertIsNone(worst_way(kitchen, trace, step, place))
        self.assertEqual(worst(Kitchen(kitchen.work), "nut", "serve", "plate"), 0)

    def test_a_trace_at_first_at_the_place(self):
        kitchen = kitchen_of("cut at a go a a 1", "fry at a go a a 0", "wash at a", "ahead cut fry", "trace nut a 5")
        for step, level, way in (("cut", 5, ("a",)), ("fry", 4, ("a", ("cut", "a"))), ("wash", 5, ("a",))):
            self.assertEqual(worst(kitchen, "nut", step, "a"), level)
            self.assertEqual(worst_way(kitchen, "nut", step, "a"), way)

    def test_losses_as_great_as_the_level(self):
        for less, level in ((2, 1), (3, 0), (4, 0), (10 ** 18, 0)):
            kitchen = kitchen_of(f"cut at a b go a b {less}", "fry at b", "trace nut a 3")
            self.assertEqual(worst(kitchen, "nut", "fry", "b"), level)
            self.assertEqual(worst_way(kitchen, "nut", "fry", "b"), ("a", ("cut", "b")) if level else None)

    def test_errors(self):
        kitchen = kitchen_example()
        for call in (worst, worst_way):
            for name in ("fry", "nuts", "nut", "moon"):
                for place in ("plate", "moon", "fry"):
                    with self.assertRaises(NoStep) as caught:
                        call(kitchen, "nut", name, place)
                    self.assertEqual(caught.exception.name, name)
            for name, place in (("serve", "board"), ("serve", "serve"), ("chop", "plate"), ("cut", "moon"), ("cut", "nut")):
                for trace in ("nut", "soy"):
                    with self.assertRaises(NoPlace) as caught:
                        call(kitchen, trace, name, place)
                    self.assertEqual(caught.exception.name, place)


class HarmsTest(unittest.TestCase):

    def test_the_example(self):
        self.assertEqual(harms(kitchen_example()), (0,))
        self.assertEqual(harms(kitchen_example().with_work(fenced_example())), ())
        self.assertEqual(harms(Kitchen(kitchen_example().work)), ())

    def test_against_all_orders(self):
        many = [0, 0]
        for kitchen in kitchens(510, 120):
            behind = cooked_plainly(kitchen)
            told = set()
            for row in orders(kitchen.work.names, kitchen.work.ahead):
                told |= reached_plainly(kitchen, behind, row)
            self.assertEqual(harms(kitchen), tuple(sorted(told)), str(kitchen))
            many[0] += len(told)
            many[1] += len(kitchen.limits) - len(told)
        self.assertGreater(min(many), 80)

    def test_at_least_the_level(self):
        for level, told in ((4, (0,)), (5, ()), (3, (0,))):
            kitchen = Kitchen(kitchen_example().work, [("nut", "nuts", 5)], [("nut", "serve", "plate", level)])
            self.assertEqual(harms(kitchen), told)
            self.assertEqual(len(harmful_ways(kitchen, 0)), 2 * len(told))

    def test_limits_in_their_order_and_twice(self):
        kitchen = kitchen_of("cut at a go a a 0", "trace nut a 3", "limit nut cut a 4", "limit nut cut a 3", "limit egg cut a 1",
                             "limit nut cut a 3")
        self.assertEqual(harms(kitchen), (1, 3))
        self.assertEqual(reached(kitchen, ["cut"]), (1, 3))


class HarmfulWaysTest(unittest.TestCase):

    def test_the_example(self):
        self.assertEqual(harmful_ways(kitchen_example(), 0), (
            ("nuts", ("chop", "board"), ("cut", "plate")), ("nuts", ("chop", "board"), ("toss", "board"), ("cut", "plate"))))
        self.assertEqual(harmful_ways(kitchen_example().with_work(fenced_example()), 0), ())

    def known(self, kitchen, at):
        trace, name, place, level = kitchen.limits[at]
        rows = orders(kitchen.work.names, kitchen.work.ahead)
        if all(start != place for start, _, _ in kitchen.work.step(name).arrows):
            return []
        return sorted(way for way in all_ways(kitchen.work) if (way[-1][1] if len(way) > 1 else way[0]) == place
                      and level_left(kitchen, trace, way) >= level and name in lasts(kitchen.work, way)
                      and any(happens(kitchen.work, way, name, row) for row in rows))

    def test_against_all_orders(self):
        counts = []
        for kitchen in kitchens(520, 120):
            for at in range(len(kitchen.limits)):
                told = harmful_ways(kitchen, at)
                self.assertEqual(told, tuple(self.known(kitchen, at)), f"{kitchen}\n{at}")
                self.assertIs(told != (), at in harms(kitchen))
                counts.append(len(told))
        self.assertGreater(len([many for many in counts if many == 0]), 30)
        self.assertGreater(len([many for many in counts if many > 3]), 15)

    def test_works_of_more_steps(self):
        for kitchen in thick_kitchens(521, 6, 6):
            for at in range(len(kitchen.limits)):
                self.assertEqual(harmful_ways(kitchen, at), tuple(self.known(kitchen, at)), f"{kitchen}\n{at}")

    def test_traces_at_several_places(self):
        kitchen = kitchen_of("cut at a b go a b 1, b b 0", "fry at b go b b 9", "trace nut b 3", "trace nut a 3", "trace nut c 9",
                             "trace egg a 9", "limit nut fry b 2", "limit nut fry b 3", "limit egg fry b 3")
        self.assertEqual(harmful_ways(kitchen, 0), (("a", ("cut", "b")), ("b",), ("b", ("cut", "b"))))
        self.assertEqual(harmful_ways(kitchen, 1), (("b",), ("b", ("cut", "b"))))
        self.assertEqual(harmful_ways(kitchen, 2), (("a", ("cut", "b")),))

    def test_no_arrow_from_the_place(self):
        kitchen = kitchen_of("cut at a b go b a 0", "trace nut a 3", "trace nut b 3", "limit nut cut a 1", "limit nut cut b 1")
        self.assertEqual(harmful_ways(kitchen, 0), ())
        self.assertEqual(harmful_ways(kitchen, 1), (("b",),))

    def test_no_limit(self):
        one, none = kitchen_example(), Kitchen(kitchen_example().work)
        for at in (-1, 1, 2, -2, 10 ** 18, -10 ** 18, 5):
            for kitchen in (one, none):
                with self.assertRaises(NoLimit) as caught:
                    harmful_ways(kitchen, at)
                self.assertEqual(caught.exception.at, at)
        with self.assertRaises(NoLimit) as caught:
            harmful_ways(none, 0)
        self.assertEqual(caught.exception.at, 0)
        for value in any_values():
            if value.__class__ is not int or value != 0:
                with self.assertRaises(NoLimit):
                    harmful_ways(one, value)


class SizeTest(unittest.TestCase):

    def test_seven_dense_steps(self):
        for less in (0, 1):
            kitchen = dense_kitchen(7, less)
            self.assertEqual(worst(kitchen, "nut", "g", "p"), 10 ** 6)
            self.assertEqual(worst(kitchen, "egg", "g", "s"), 0)
            self.assertEqual(worst(kitchen, "nut", "g", "s"), 0)
            self.assertEqual(harms(kitchen), (0, 2))
            self.assertEqual(harmful_ways(kitchen, 1), ())
        ways = harmful_ways(dense_kitchen(7, 0), 2)
        self.assertEqual(len(ways), len(set(ways)))
        self.assertEqual(ways, tuple(sorted(ways)))
        self.assertEqual(len(ways), self.many_walks("r", 6, "pqr"))

    def many_walks(self, goal, most, starts):
        """How many walks of different steps there are between the places: each order of the steps with each walk."""
        counts = dict.fromkeys(starts, 1)
        total, rows = 0, 1
        for many in range(most + 1):
            total += rows * counts.get(goal, 0)
            rows *= most - many
            behind = {}
            for start, end in DENSE:
                behind[end] = behind.get(end, 0) + counts.get(start, 0)
            counts = behind
        return total

    def test_somewhat_beyond(self):
        kitchen = dense_kitchen(10, 1)
        self.assertEqual(worst(kitchen, "nut", "g", "q"), 10 ** 6 - 3)
        self.assertEqual(harms(kitchen), (0, 2))
        for at in (0, 2):
            self.assertTrue(can_happen(kitchen.work, worst_way(kitchen, "nut", kitchen.limits[at][1], kitchen.limits[at][2]),
                                       kitchen.limits[at][1]))
        self.assertEqual(harmful_ways(kitchen, 0)[0], ("p",))

    def test_long_chains(self):
        names = [one + other for one in "bcd" for other in "qrstuv"]
        steps = [Step(name, ["pan", "pot"], [("pan", "pan", 1), ("pan", "pot", 0)]) for name in names]
        work = Work(steps, list(zip(names, names[1:])))
        kitchen = Kitchen(work, [("nut", "pan", 40)], [("nut", names[-1], "pan", 20), ("nut", names[12], "pan", 28)])
        self.assertEqual(worst(kitchen, "nut", names[-1], "pan"), 23)
        self.assertEqual(worst_way(kitchen, "nut", names[-1], "pan"), ("pan", *[(name, "pan") for name in names[:-1]]))
        self.assertEqual(harms(kitchen), (0, 1))
        self.assertEqual(harmful_ways(kitchen, 1), (("pan", *[(name, "pan") for name in names[:12]]),))


if __name__ == "__main__":
    unittest.main()
