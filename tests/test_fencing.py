"""[22]: fences by which no limit is reached in any order."""

import unittest
from itertools import combinations, permutations
from time import perf_counter

from examples import cooked_plainly, kitchen_example, orders, plain, reached_plainly, some_kitchens, thick_kitchens
from plateways.fencing import is_fenced, least_fences
from plateways.kitchens import Kitchen
from plateways.reaching import harms
from plateways.steps import Step
from plateways.works import Work, many_orders


def kitchen_of(*lines):
    return Kitchen.read("\n".join(lines))


class Orders:
    """All orders of a kitchen's work, and which of them are clean, cooked step by step."""

    def __init__(self, kitchen):
        behind = cooked_plainly(kitchen)
        self.rows = {row: not reached_plainly(kitchen, behind, row) for row in orders(kitchen.work.names, kitchen.work.ahead)}

    def is_fenced(self, pairs):
        left = [clean for row, clean in self.rows.items() if all(row.index(one) < row.index(other) for one, other in pairs)]
        return bool(left) and all(left)

    def least(self, names):
        found = []
        for many in range(3):
            for lot in combinations(sorted(permutations(names, 2)), many):
                if not any(set(less) <= set(lot) for less in found) and self.is_fenced(lot):
                    found.append(lot)
        return tuple(found)


class IsFencedTest(unittest.TestCase):

    def test_the_example(self):
        kitchen = kitchen_example()
        self.assertIs(is_fenced(kitchen, [("chop", "wash"), ("wash", "cut")]), True)
        self.assertIs(is_fenced(kitchen, [("wash", "cut")]), False)
        self.assertIs(is_fenced(kitchen, []), False)

    def test_pairs_that_make_a_ring(self):
        kitchen = Kitchen(plain("abc", [("a", "b")]))
        for pairs in ([("b", "a")], [("b", "c"), ("c", "a")], [("a", "c"), ("c", "a")], [("c", "b"), ("b", "c"), ("a", "b")]):
            self.assertIs(is_fenced(kitchen, pairs), False)
            self.assertIs(is_fenced(kitchen, tuple(pairs)), False)
        self.assertIs(is_fenced(kitchen, [("b", "c"), ("a", "c")]), True)
        self.assertIs(is_fenced(kitchen_example(), [("cut", "chop"), ("chop", "cut")]), False)

    def test_pairs_that_change_nothing(self):
        kitchen = kitchen_example()
        self.assertIs(is_fenced(kitchen, [("chop", "toss"), ("cut", "serve"), ("chop", "toss")]), False)
        self.assertIs(is_fenced(kitchen, [("cut", "chop"), ("cut", "serve"), ("cut", "toss"), ("cut", "chop")]), True)
        self.assertIs(is_fenced(Kitchen(kitchen.work), [("chop", "toss")]), True)

    def test_against_all_orders(self):
        found = {True: 0, False: 0}
        for kitchen in [*some_kitchens(900, 30), *thick_kitchens(900, 50)]:
            known = Orders(kitchen)
            pairs = list(permutations(kitchen.work.names, 2))
            for lot in [(), *[(pair,) for pair in pairs], *list(combinations(pairs, 2))[::5], *list(combinations(pairs, 3))[::60]]:
                told = is_fenced(kitchen, list(lot))
                self.assertIs(told, known.is_fenced(lot), f"{kitchen}\n{lot}")
                found[told] += 1
        self.assertGreater(min(found.values()), 300)

    def test_the_kitchen_stays(self):
        kitchen = kitchen_example()
        text, pairs = str(kitchen), [("chop", "wash"), ("wash", "cut")]
        is_fenced(kitchen, pairs)
        self.assertEqual((str(kitchen), pairs), (text, [("chop", "wash"), ("wash", "cut")]))


class LeastTest(unittest.TestCase):

    def test_the_example(self):
        self.assertEqual(least_fences(kitchen_example()), (
            (("cut", "chop"),), (("serve", "chop"),), (("chop", "wash"), ("wash", "cut")), (("cut", "wash"), ("wash", "chop")),
            (("serve", "wash"), ("wash", "chop")), (("toss", "wash"), ("wash", "cut"))))

    def test_none_needed(self):
        self.assertEqual(least_fences(Kitchen(kitchen_example().work)), ((),))
        self.assertEqual(least_fences(kitchen_of("a at p", "trace nut p 3", "limit nut a p 1")), ((),))

    def test_none_enough(self):
        self.assertEqual(least_fences(kitchen_of("a at p go p p 0", "trace nut p 3", "limit nut a p 1")), ())
        self.assertEqual(least_fences(kitchen_of("a at p go p p 0", "b at q", "trace nut p 3", "limit nut a p 1")), ())

    def test_more_than_two_needed(self):
        lines = ["a at p go p p 0", "b at q go q q 0", "c at r go r r 0", "w at p q r", "trace nut p 1", "trace nut q 1", "trace nut r 1",
                 "limit nut a p 1", "limit nut b q 1", "limit nut c r 1"]
        self.assertEqual(least_fences(kitchen_of(*lines)), ())
        self.assertIs(is_fenced(kitchen_of(*lines), [("w", "a"), ("w", "b"), ("w", "c")]), True)
        self.assertEqual(least_fences(kitchen_of(*lines[:9])), (
            (("a", "b"), ("w", "a")), (("b", "a"), ("w", "b")), (("w", "a"), ("w", "b"))))

    def test_ascending_by_names(self):
        kitchen = kitchen_of("z at p go p p 0", "y at p", "x at p", "trace nut p 1", "limit nut z p 1")
        self.assertEqual(least_fences(kitchen), ((("x", "z"),), (("y", "z"),)))

    def test_against_all_lots(self):
        lengths = []
        for kitchen in [*some_kitchens(901, 60), *thick_kitchens(901, 100)]:
            told = least_fences(kitchen)
            self.assertEqual(told, Orders(kitchen).least(kitchen.work.names), str(kitchen))
            lengths.extend([len(lot) for lot in told] or [-1])
        for many in (-1, 0, 1, 2):
            self.assertGreater(lengths.count(many), 10, many)

    def test_sizes(self):
        for many in (5, 6):
            steps = [Step("abcdef"[at], ["p", "q", "r"], [("p", "p", 0), ("p", "q", 1), ("q", "p", 2), ("q", "q", 0), ("r", "r", 3), ("p", "r", 0)])
                     for at in range(many)]
            kitchen = Kitchen(Work([*steps[:-1], Step("z", ["p", "q", "r"])]), [("nut", "p", 9)], [("nut", "a", "q", 8)])
            known = Orders(kitchen)
            self.assertEqual(many_orders(kitchen.work), len(known.rows))
            self.assertEqual(least_fences(kitchen), known.least(kitchen.work.names))


class ManyAsksTest(unittest.TestCase):
    """Least fences are asked for many kitchens, so none of them may take long."""

    def test_more_traces_and_limits(self):
        found = []
        for kitchen in thick_kitchens(902, 40):
            work = kitchen.work
            spots = [(step.name, place) for step in work.steps for place in step.places]
            limits = [(trace, *spots[at % len(spots)], level) for at, (trace, level) in enumerate(
                [("nut", 6), ("egg", 5), ("soy", 4), ("nut", 3), ("egg", 7), ("soy", 2)])]
            more = [("soy", place, 2 + at) for at, place in enumerate(work.places)]
            wide = Kitchen(work, [*kitchen.traces, *more], limits)
            told = least_fences(wide)
            self.assertEqual(told, Orders(wide).least(work.names), str(wide))
            found.append(told)
        self.assertGreater(len([told for told in found if told and told != ((),)]), 5)

    def test_one_step_more(self):
        found = {0: 0, 1: 0, 2: 0}
        for kitchen in [*some_kitchens(903, 4, 6), *thick_kitchens(903, 12, 6), *thick_kitchens(905, 12, 6)]:
            told = least_fences(kitchen)
            self.assertEqual(told, Orders(kitchen).least(kitchen.work.names), str(kitchen))
            for lot in told:
                found[len(lot)] += 1
        self.assertGreater(min(found.values()), 0)

    def test_limits_by_which_no_set_is_enough(self):
        lines = [line for line in str(kitchen_example()).split("\n") if not line.startswith(("trace egg", "limit"))]
        for limit, known in (("nut chop nuts 5", ()), ("nut chop nuts 6", ((),)), ("nut serve plate 5", ((),))):
            kitchen = kitchen_of(*lines, f"limit {limit}")
            self.assertEqual(least_fences(kitchen), known)
            self.assertEqual(Orders(kitchen).least(kitchen.work.names), known)

    def test_how_long_it_takes(self):
        lines = [line for line in str(kitchen_example()).split("\n") if not line.startswith(("trace egg", "limit"))]
        dense = [f"{name} at p q r go p p 0, p q 1, q p 2, q q 0, r r 3, p r 0" for name in "abcde"]
        for kitchen in (kitchen_of(*lines, "limit nut serve plate 3"), kitchen_of(*lines, "limit nut chop nuts 5"),
                        kitchen_of(*dense, "trace nut p 9", "limit nut a q 8")):
            # To look at each of the 210 sets by itself takes longer than 150 looks at the kitchen.
            self.assertLess(least_time(least_fences, kitchen), 40 * least_time(harms, kitchen))


def least_time(call, kitchen):
    """The least time that the call takes, of several."""
    times = []
    for _ in range(30):
        start = perf_counter()
        call(kitchen)
        times.append(perf_counter() - start)
    return min(times)


if __name__ == "__main__":
    unittest.main()
