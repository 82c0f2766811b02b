"""What the functions about all orders rest on: what can be done at some time, and the least levels that are enough."""

import unittest

from examples import done_plainly, kitchen_example, orders, plain, some_kitchens, some_works, thick_kitchens
from plateways.kitchens import Kitchen
from plateways.leasts import least_levels
from plateways.works import all_done


def bits(work, row):
    return sum(1 << work.names.index(name) for name in row)


def is_reached(kitchen, now, row):
    """Whether some limit is reached in these steps, cooked one by one from these levels."""
    for name in row:
        step = kitchen.work.step(name)
        starts = [arrow[0] for arrow in step.arrows]
        for trace, limit_step, place, level in kitchen.limits:
            if limit_step == name and place in starts and now.get((trace, place), 0) >= level:
                return True
        now = done_plainly(step, now)
    return False


class DoneTest(unittest.TestCase):

    def test_against_all_orders(self):
        for work in some_works(20, 60):
            told = all_done(work)
            rows = orders(work.names, work.ahead)
            self.assertEqual(sorted(told), sorted({bits(work, row[:many]) for row in rows for many in range(len(row) + 1)}))
            self.assertEqual(len(told), len(set(told)))

    def test_each_one_stands_behind_its_parts(self):
        for work in some_works(21, 40):
            told = all_done(work)
            for at, done in enumerate(told):
                self.assertFalse([more for more in told[:at] if more & done == done])

    def test_chains(self):
        self.assertEqual(all_done(plain("abc", [("c", "b"), ("b", "a")])), [0, 4, 6, 7])
        names = [one + other for one in "bcde" for other in "vwxyz"]
        self.assertEqual(len(all_done(plain(names, list(zip(names, names[1:]))))), 21)


class LeastTest(unittest.TestCase):

    def test_the_example(self):
        kitchen = kitchen_example()
        least = least_levels(kitchen.work, kitchen.limits)
        self.assertEqual(least[0], {("nut", "nuts"): 4, ("nut", "board"): 4, ("nut", "plate"): 3})
        self.assertEqual(least[bits(kitchen.work, ("chop", "cut"))], {("nut", "plate"): 3})
        self.assertEqual(least[(1 << 5) - 1], {})
        self.assertEqual(least_levels(kitchen.work, [])[0], {})

    def test_against_all_that_can_come(self):
        for kitchen in [*some_kitchens(22, 30, 4), *thick_kitchens(22, 60, 4)]:
            least = least_levels(kitchen.work, kitchen.limits)
            rows = orders(kitchen.work.names, kitchen.work.ahead)
            traces = sorted({limit[0] for limit in kitchen.limits})
            for done in all_done(kitchen.work):
                rests = {row[many:] for row in rows for many in range(len(row) + 1) if bits(kitchen.work, row[:many]) == done}
                for trace in traces:
                    for place in (*kitchen.work.places, "moon"):
                        known = [level for level in range(1, 20)
                                 if any(is_reached(kitchen, {(trace, place): level}, rest) for rest in rests)]
                        self.assertEqual(least[done].get((trace, place)), known[0] if known else None, f"{kitchen}\n{done} {place}")

    def test_great_levels(self):
        most = 10 ** 18
        kitchen = Kitchen.read(f"a at p q go p q {most}\nb at q go q q 0\nlimit nut b q {most}")
        self.assertEqual(least_levels(kitchen.work, kitchen.limits)[0], {("nut", "p"): 2 * most, ("nut", "q"): most})


if __name__ == "__main__":
    unittest.main()
