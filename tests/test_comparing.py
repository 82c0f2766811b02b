"""[25]: kitchens with the same limits, and in which of them more can come to these."""

import random
import unittest

from examples import cooked_plainly, fenced_example, kitchen_example, orders, some_kitchens, thick_kitchens
from plateways.comparing import alike, never_worse, worse
from plateways.errors import InvalidKitchen
from plateways.kitchens import Kitchen
from plateways.reaching import worst
from plateways.steps import Step
from plateways.works import Work


def kitchen_of(*lines):
    return Kitchen.read("\n".join(lines))


def worst_plainly(kitchen):
    """The worst level of each limit, by all orders cooked step by step."""
    behind = cooked_plainly(kitchen)
    rows = orders(kitchen.work.names, kitchen.work.ahead)
    return [max(behind[row[:row.index(name)]].get((trace, place), 0) for row in rows) for trace, name, place, _ in kitchen.limits]


def some_changes(chance, kitchen):
    """Kitchens with the same limits: otherwise washed, fenced, with other losses, traces, or more steps."""
    work = kitchen.work
    row = chance.choice(orders(work.names, work.ahead))
    spots = [(step.name, place) for step in work.steps for place in step.places]
    kept = [limit[1] for limit in kitchen.limits]
    steps = [Step(step.name, step.places, [(start, end, chance.choice((0, less, less + 1))) for start, end, less in step.arrows])
             for step in work.steps]
    left_out = [step.name for step in steps[1:] if step.name not in kept][:1]
    traces = [(trace, place, max(1, level + chance.randint(-2, 2))) for trace, place, level in kitchen.traces]
    return [
        kitchen,
        kitchen.with_work(work.washed([chance.choice(spots)])),
        kitchen.with_work(work.fenced(list(zip(row, row[1:]))[:chance.randint(1, 3)])),
        kitchen.with_work(Work(steps, work.ahead)),
        kitchen.with_work(Work(steps[::-1])),
        kitchen.with_work(Work([step for step in steps if step.name not in left_out])),
        kitchen.with_work(Work([Step("extra", work.places[:4]), *steps])),
        Kitchen(work, traces, kitchen.limits),
        Kitchen(work, traces[1:], kitchen.limits),
    ]


class ComparingTest(unittest.TestCase):

    def check(self, p, q):
        levels = list(zip(worst_plainly(p), worst_plainly(q)))
        greater = [at for at, (one, other) in enumerate(levels) if one > other]
        told = f"{p}\n\n{q}"
        self.assertIs(never_worse(p, q), not greater, told)
        self.assertEqual(worse(p, q), greater[0] if greater else None, told)
        self.assertIs(alike(p, q), all(one == other for one, other in levels), told)
        return len(greater), levels

    def test_against_all_orders(self):
        chance = random.Random(25)
        kinds = {"worse": 0, "never worse, not alike": 0, "alike": 0, "worse at a later limit alone": 0}
        for kitchen in [*some_kitchens(250, 25), *thick_kitchens(250, 50)]:
            several = some_changes(chance, kitchen)
            for p in several:
                q = chance.choice(several)
                many, levels = self.check(p, q)
                if levels:
                    same = all(one == other for one, other in levels)
                    kinds["worse" if many else "alike" if same else "never worse, not alike"] += 1
                    kinds["worse at a later limit alone"] += many and levels[0][0] <= levels[0][1]
        self.assertGreater(min(kinds.values()), 10, kinds)

    def test_the_example(self):
        kitchen = kitchen_example()
        calm = kitchen.with_work(fenced_example())
        self.assertEqual((never_worse(calm, kitchen), worse(calm, kitchen), alike(calm, kitchen)), (True, None, False))
        self.assertEqual((never_worse(kitchen, calm), worse(kitchen, calm), alike(kitchen, calm)), (False, 0, False))
        self.assertEqual((never_worse(kitchen, kitchen), worse(kitchen, kitchen), alike(kitchen, kitchen)), (True, None, True))

    def test_by_levels_not_by_what_is_reached(self):
        kitchen = kitchen_example()
        low = Kitchen(kitchen.work, [("nut", "nuts", 9)], kitchen.limits)
        # Both reach the limit, of level 3, with 4 and 8.
        self.assertEqual((never_worse(low, kitchen), worse(low, kitchen), alike(low, kitchen)), (False, 0, False))
        self.assertIs(never_worse(kitchen, low), True)
        high = [Kitchen(kitchen.work, [("nut", "nuts", level)], [("nut", "serve", "plate", 100)]) for level in (5, 6)]
        self.assertEqual((worse(high[1], high[0]), worse(high[0], high[1])), (0, None))

    def test_without_an_arrow_from_the_place(self):
        one = kitchen_of("a at p q go p p 0", "b at p", "trace nut p 3", "limit nut b p 2")
        other = kitchen_of("a at p q", "b at p", "trace nut p 2", "limit nut b p 2")
        self.assertEqual([worst(kitchen, "nut", "b", "p") for kitchen in (one, other)], [3, 2])
        self.assertEqual((worse(one, other), worse(other, one), alike(one, other)), (0, None, False))

    def test_the_first_limit_that_is_worse(self):
        lines = ["a at p", "b at q", "c at r", "trace nut p 5", "trace nut q 5", "trace nut r 5"]
        limits = ["limit nut a p 1", "limit nut b q 1", "limit nut c r 1"]
        kitchen = kitchen_of(*lines, *limits)
        for levels, known in (((5, 5, 6), 2), ((5, 6, 6), 1), ((6, 1, 6), 0), ((1, 6, 1), 1), ((5, 5, 5), None), ((1, 5, 5), None)):
            other = Kitchen(kitchen.work, [("nut", place, level) for place, level in zip("pqr", levels)], kitchen.limits)
            self.assertEqual(worse(other, kitchen), known)
            self.assertIs(never_worse(other, kitchen), known is None)
            self.assertIs(alike(other, kitchen), levels == (5, 5, 5))

    def test_works_that_have_little_in_common(self):
        one = kitchen_of("a at p go p p 0", "x at p q go p q 0", "trace nut p 5", "limit nut a p 3")
        other = kitchen_of("y at s p go s p 1", "z at s", "a at r p", "trace nut s 6", "trace egg p 7", "limit nut a p 3")
        self.assertEqual((worse(one, other), worse(other, one), alike(one, other)), (None, None, True))

    def test_no_limits(self):
        one, other = kitchen_of("a at p", "trace nut p 3"), kitchen_of("b at q go q q 0")
        self.assertEqual((never_worse(one, other), worse(one, other), alike(one, other)), (True, None, True))

    def test_great_levels(self):
        most = 10 ** 18
        one = kitchen_of("a at p", f"trace nut p {most}", "limit nut a p 1")
        other = kitchen_of("a at p", f"trace nut p {most - 1}", "limit nut a p 1")
        self.assertEqual((worse(one, other), worse(other, one), alike(one, other)), (0, None, False))

    def test_seven_and_eight_steps(self):
        for many in (7, 8):
            steps = [Step("abcdefgh"[at], ["p", "q", "r", "s"], [("p", "p", at), ("p", "q", 2 * at + 1), ("q", "p", 3), ("q", "q", 9 - at),
                                                                 ("q", "r", 1), ("r", "r", at * at)]) for at in range(many)]
            limits = [("nut", "a", "r", 9), ("egg", "g", "q", 3), ("nut", "g", "p", 2)]
            kitchen = Kitchen(Work(steps), [("nut", "p", 100), ("egg", "p", 80)], limits)
            fenced = kitchen.with_work(kitchen.work.fenced([("g", "b"), ("c", "a")]))
            for p in (kitchen, fenced):
                for q in (kitchen, fenced):
                    levels = [[worst(one, *limit[:3]) for limit in limits] for one in (p, q)]
                    greater = [at for at, (one, other) in enumerate(zip(*levels)) if one > other]
                    self.assertEqual(worse(p, q), greater[0] if greater else None)
                    self.assertIs(alike(p, q), levels[0] == levels[1])
            self.assertEqual((never_worse(fenced, kitchen), alike(fenced, kitchen)), (True, False))


class ErrorsTest(unittest.TestCase):

    def test_limits_that_are_not_equal(self):
        kitchen = kitchen_example()
        limit = kitchen.limits[0]
        for limits in ([], [limit, limit], [("nut", "serve", "plate", 4)], [("egg", "serve", "plate", 3)], [("nut", "cut", "plate", 3)]):
            other = Kitchen(kitchen.work, kitchen.traces, limits)
            for call in (never_worse, worse, alike):
                for p, q in ((kitchen, other), (other, kitchen)):
                    with self.assertRaises(InvalidKitchen) as caught:
                        call(p, q)
                    self.assertEqual(caught.exception.word, "limits")

    def test_the_order_of_the_limits_counts(self):
        kitchen = kitchen_example()
        limits = [("nut", "serve", "plate", 3), ("egg", "serve", "plate", 1)]
        one, other = Kitchen(kitchen.work, (), limits), Kitchen(kitchen.work, (), limits[::-1])
        for call in (never_worse, worse, alike):
            with self.assertRaises(InvalidKitchen):
                call(one, other)
            call(one, Kitchen(kitchen.work, (), tuple(limits)))


if __name__ == "__main__":
    unittest.main()
