"""[21]: the least washings by which no limit is reached in any order; [5], [6]: washed."""

import random
import unittest
from itertools import combinations

from examples import cooked_plainly, fenced_example, kitchen_example, orders, reached_plainly, some_kitchens, thick_kitchens
from plateways.kitchens import Kitchen
from plateways.reaching import harmful_ways, harms
from plateways.steps import Step
from plateways.washing import least_washings
from plateways.works import Work


def kitchen_of(*lines):
    return Kitchen.read("\n".join(lines))


def washed_plainly(work, washings):
    """The work whose steps are made anew, without the arrows that start where they are washed."""
    steps = [Step(step.name, step.places, [arrow for arrow in step.arrows if (step.name, arrow[0]) not in washings])
             for step in work.steps]
    return Work(steps, work.ahead)


def is_harmless(kitchen):
    """Whether no limit is reached in any order, cooked step by step."""
    behind = cooked_plainly(kitchen)
    return not any(reached_plainly(kitchen, behind, row) for row in orders(kitchen.work.names, kitchen.work.ahead))


def least_plainly(kitchen, places):
    """All least lots of washings at the places, by trying them all."""
    able = sorted({(step.name, place) for step in kitchen.work.steps for place in step.places if place in places})
    found = []
    for many in range(len(able) + 1):
        for lot in combinations(able, many):
            if not any(set(less) <= set(lot) for less in found):
                if is_harmless(Kitchen(washed_plainly(kitchen.work, lot), kitchen.traces, kitchen.limits)):
                    found.append(lot)
    return tuple(found)


def by_ways(kitchen, places):
    """The least lots that meet each harmful way, as [21] tells why."""
    ways = []
    for at, (_, name, place, _) in enumerate(kitchen.limits):
        for way in harmful_ways(kitchen, at):
            spots = [way[0], *[spot for _, spot in way[1:]]]
            ways.append({pair for pair in zip([*[hop[0] for hop in way[1:]], name], spots) if pair[1] in places})
    lots = [frozenset()]
    for way in ways:
        wider = {lot if lot & way else lot | {pair} for lot in lots for pair in (way if not lot & way else [None])}
        lots = [lot for lot in wider if not any(less < lot for less in wider)]
    return tuple(sorted((tuple(sorted(lot)) for lot in lots), key=lambda lot: (len(lot), lot)))


class WashingTest(unittest.TestCase):

    def test_the_example(self):
        kitchen = kitchen_example()
        self.assertEqual(least_washings(kitchen, ["board", "bowl"]), ((("cut", "board"),),))
        self.assertEqual(least_washings(kitchen, ["nuts", "plate"]), ((("chop", "nuts"),), (("serve", "plate"),)))
        self.assertEqual(least_washings(kitchen, ["bowl"]), ())
        self.assertEqual(least_washings(kitchen.with_work(fenced_example()), ["board"]), ((),))

    def test_washings_that_meet_only_together(self):
        kitchen = kitchen_of("one at a b go a b 0", "two at a c go a c 0", "end at b c go b b 0, c c 0", "trace nut a 3",
                             "limit nut end b 1", "limit nut end c 1")
        self.assertEqual(least_washings(kitchen, ["a", "b", "c"]), (
            (("end", "b"), ("end", "c")), (("end", "b"), ("two", "a")), (("end", "c"), ("one", "a")), (("one", "a"), ("two", "a"))))
        self.assertEqual(least_washings(kitchen, ["a"]), ((("one", "a"), ("two", "a")),))
        self.assertEqual(least_washings(kitchen, ["a", "b"]), ((("end", "b"), ("two", "a")), (("one", "a"), ("two", "a"))))
        self.assertEqual(least_washings(kitchen, ["b"]), ())

    def test_shorter_ones_first(self):
        kitchen = kitchen_of("a at p q go p q 0", "b at p q go p q 0", "z at q go q q 0", "trace nut p 3", "limit nut z q 1")
        self.assertEqual(least_washings(kitchen, ["p", "q"]), ((("z", "q"),), (("a", "p"), ("b", "p"))))

    def test_none_needed(self):
        for kitchen in (Kitchen(kitchen_example().work), kitchen_of("a at p go p p 0", "trace nut p 3", "limit nut a p 4")):
            for places in ([], ["p"], ["moon"], ["board", "nuts"]):
                self.assertEqual(least_washings(kitchen, places), ((),))

    def test_none_enough(self):
        kitchen = kitchen_of("a at p q go p q 0", "b at q go q q 0", "trace nut p 3", "limit nut a p 2", "limit nut b q 2")
        for places, told in (([], ()), (["q"], ()), (["moon"], ()), (["p"], ((("a", "p"),),)), (["p", "q"], ((("a", "p"),),))):
            self.assertEqual(least_washings(kitchen, places), told)

    def test_places_that_no_step_touches_and_places_twice(self):
        for kitchen in thick_kitchens(800, 30):
            places = list(kitchen.work.places[:2])
            told = least_washings(kitchen, places)
            self.assertEqual(least_washings(kitchen, [*places, "moon", "sun"]), told)
            self.assertEqual(least_washings(kitchen, [*places, *places]), told)
            self.assertEqual(least_washings(kitchen, tuple(places[::-1])), told)
            self.assertEqual(least_washings(kitchen, ["moon"]), () if harms(kitchen) else ((),))

    def test_against_all_lots_of_washings(self):
        chance = random.Random(81)
        lengths = []
        for kitchen in [*some_kitchens(801, 60, 4), *thick_kitchens(801, 400, 4)]:
            places = chance.sample(("pan", "pot", "dish", "sink", "moon"), 2)
            told = least_washings(kitchen, places)
            self.assertEqual(told, least_plainly(kitchen, places), f"{kitchen}\n{places}")
            lengths.extend([len(lot) for lot in told] or [-1])
        for many in (-1, 0, 1, 2):
            self.assertGreater(lengths.count(many), 2, many)

    def test_against_harmful_ways(self):
        longest = 0
        for kitchen in [*thick_kitchens(802, 120, 7), *some_kitchens(802, 40, 7)]:
            for places in (("pan", "pot", "dish", "sink"), ("pan", "dish")):
                told = least_washings(kitchen, places)
                self.assertEqual(told, by_ways(kitchen, places), str(kitchen))
                longest = max([longest, *map(len, told)])
                for lot in told:
                    self.assertEqual(harms(kitchen.with_work(kitchen.work.washed(lot))), ())
        self.assertGreater(longest, 2)

    def test_seven_dense_steps_and_more(self):
        places = ["p", "q", "r", "s"]
        for many in (7, 8):
            steps = [Step("abcdefgh"[at], places, [("p", "p", 0), ("p", "q", 0), ("q", "p", 0), ("q", "q", 0), ("r", "s", 0), ("s", "r", 0)])
                     for at in range(many)]
            kitchen = Kitchen(Work(steps), [("nut", "p", 9), ("egg", "r", 9)], [("nut", "g", "q", 5), ("egg", "f", "s", 5), ("nut", "e", "p", 5)])
            told = least_washings(kitchen, places)
            self.assertTrue(all(("e", "p") in lot for lot in told))
            self.assertEqual(told[0], (("e", "p"), ("f", "s"), ("g", "q")))
            if many == 7:
                self.assertEqual(told, by_ways(kitchen, places))
            for lot in told:
                self.assertEqual(harms(kitchen.with_work(kitchen.work.washed(lot))), ())


class WashedTest(unittest.TestCase):

    def test_a_washing_takes_the_arrows_that_start_there(self):
        kitchen = kitchen_example()
        work = kitchen.work.washed([("cut", "board"), ("chop", "nuts")])
        self.assertEqual(str(work.step("cut")), "cut at board plate go plate plate 0")
        self.assertEqual(str(work.step("chop")), "chop at board nuts go board board 0")
        self.assertEqual(work.places, kitchen.work.places)
        self.assertEqual(work, washed_plainly(kitchen.work, [("cut", "board"), ("chop", "nuts")]))
        self.assertEqual(kitchen.with_work(work).limits, kitchen.limits)

    def test_other_ways_happen_as_ahead(self):
        for kitchen in thick_kitchens(803, 40):
            for at in range(len(kitchen.limits)):
                ways = harmful_ways(kitchen, at)
                for washing in [(step.name, place) for step in kitchen.work.steps for place in step.places]:
                    name, place = kitchen.limits[at][1:3]
                    left = [way for way in ways if washing not in zip(
                        [*[hop[0] for hop in way[1:]], name], [way[0], *[spot for _, spot in way[1:]]])]
                    washed = kitchen.with_work(kitchen.work.washed([washing]))
                    self.assertEqual(harmful_ways(washed, at), tuple(left))


if __name__ == "__main__":
    unittest.main()
