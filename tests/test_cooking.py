"""[9], [10]: levels, limits that are reached, and traces that meet."""

import unittest
from itertools import permutations

from examples import any_values, example, happens, kitchen_example, orders, plain, some_kitchens, ways_and_lasts
from plateways.cooking import levels, met, reached
from plateways.errors import InvalidRow
from plateways.kitchens import Kitchen
from plateways.steps import Step
from plateways.works import Work

CALLS = (levels, reached, met)


def kitchen_of(*lines):
    return Kitchen.read("\n".join(lines))


def beginnings(work):
    rows = orders(work.names, work.ahead)
    return sorted({row[:many] for row in rows for many in range(len(row) + 1)})


def cooked(kitchen, beginning):
    """Levels, limits reached and traces met, looked at plainly, a place and a trace at a time."""
    names = sorted({trace[0] for trace in kitchen.traces} | {"moth"})
    places = sorted({trace[1] for trace in kitchen.traces} | set(kitchen.work.places))
    now = {(name, place): 0 for name in names for place in places}
    for name, place, level in kitchen.traces:
        now[name, place] = level
    told, both = set(), set()

    def look():
        both.update((one, other, place) for one in names for other in names for place in places
                    if one < other and now[one, place] >= 1 and now[other, place] >= 1)

    look()
    for step_name in beginning:
        step = kitchen.work.step(step_name)
        for at, (name, limit_step, place, level) in enumerate(kitchen.limits):
            leads = any(start == place for start, _, _ in step.arrows)
            if limit_step == step_name and leads and now.get((name, place), 0) >= level:
                told.add(at)
        before = dict(now)
        for name in names:
            for place in step.places:
                coming = [before[name, start] - less for start, end, less in step.arrows if end == place]
                now[name, place] = max([0, *coming])
        look()
    there = tuple(sorted((name, place, level) for (name, place), level in now.items() if level >= 1))
    return there, tuple(sorted(told)), tuple(sorted(both))


class LevelsTest(unittest.TestCase):

    def test_the_example(self):
        self.assertEqual(levels(kitchen_example(), ["chop", "toss"]),
                         (("egg", "bowl", 2), ("nut", "board", 5), ("nut", "bowl", 5), ("nut", "nuts", 5)))

    def test_at_first(self):
        self.assertEqual(levels(kitchen_example(), ()), (("egg", "bowl", 2), ("nut", "nuts", 5)))
        self.assertEqual(levels(Kitchen(example()), ()), ())
        self.assertEqual(levels(Kitchen(example(), [("soy", "moon", 1), ("nut", "pan", 2), ("nut", "moon", 3)]), []),
                         (("nut", "moon", 3), ("nut", "pan", 2), ("soy", "moon", 1)))

    def test_a_place_without_an_arrow_from_itself_loses_what_was_in_it(self):
        kitchen = kitchen_of("cut at board plate go board plate 0", "rinse at plate", "trace nut board 2", "trace nut plate 7")
        self.assertEqual(levels(kitchen, ["cut"]), (("nut", "plate", 2),))
        self.assertEqual(levels(kitchen, ["cut", "rinse"]), ())

    def test_losses_as_great_as_the_level_and_greater(self):
        for less, left in ((1, (("nut", "b", 2),)), (2, (("nut", "b", 1),)), (3, ()), (4, ()), (10 ** 18, ())):
            kitchen = kitchen_of(f"cut at a b go a b {less}", "trace nut a 3")
            self.assertEqual(levels(kitchen, ["cut"]), left)

    def test_the_greatest_that_comes(self):
        kitchen = kitchen_of("mix at a b c go a c 1, b c 0, c c 3", "trace nut a 5", "trace nut b 3", "trace nut c 9")
        self.assertEqual(levels(kitchen, ["mix"]), (("nut", "c", 6),))
        kitchen = kitchen_of("mix at a b c go a c 1, b c 0, c c 3", "trace nut a 2", "trace nut b 3")
        self.assertEqual(levels(kitchen, ["mix"]), (("nut", "c", 3),))

    def test_levels_ahead_of_the_step_count(self):
        kitchen = kitchen_of("swap at a b go a b 0, b a 0", "trace nut a 5", "trace nut b 2")
        self.assertEqual(levels(kitchen, ["swap"]), (("nut", "a", 2), ("nut", "b", 5)))
        kitchen = kitchen_of("move at a b c go a b 0, b c 0", "trace nut a 5")
        self.assertEqual(levels(kitchen, ["move"]), (("nut", "b", 5),))

    def test_places_that_are_not_touched_stay(self):
        kitchen = kitchen_of("cut at a", "fry at b", "trace nut a 1", "trace nut b 2", "trace egg b 3", "trace egg c 4")
        self.assertEqual(levels(kitchen, ["cut"]), (("egg", "b", 3), ("egg", "c", 4), ("nut", "b", 2)))

    def test_several_traces_do_not_mix(self):
        kitchen = kitchen_of("mix at a b go a b 1, b b 0", "trace nut a 5", "trace egg b 2", "trace soy a 1", "trace egg a 2")
        self.assertEqual(levels(kitchen, ["mix"]), (("egg", "b", 2), ("nut", "b", 4)))

    def test_great_levels(self):
        kitchen = kitchen_of("cut at a b go a b 1", "trace nut a 1000000000000000000")
        self.assertEqual(levels(kitchen, ["cut"]), (("nut", "b", 10 ** 18 - 1),))


class ReachedTest(unittest.TestCase):

    def test_the_example(self):
        self.assertEqual(reached(kitchen_example(), ("chop", "cut", "serve")), (0,))
        for beginning in ((), ("chop", "cut"), ("cut", "serve", "chop"), ("chop", "wash", "cut", "serve")):
            self.assertEqual(reached(kitchen_example(), beginning), ())

    def test_at_least_the_level(self):
        for level, told in ((1, (0,)), (3, (0,)), (4, ()), (5, ())):
            kitchen = kitchen_of("cut at a go a a 2", "trace nut a 3", f"limit nut cut a {level}")
            self.assertEqual(reached(kitchen, ["cut"]), told)

    def test_just_ahead_of_the_step(self):
        kitchen = kitchen_of("cut at a b go a b 0", "fry at b go b b 0", "trace nut a 3", "limit nut cut b 1",
                             "limit nut cut a 1", "limit nut fry b 1")
        self.assertEqual(reached(kitchen, ["cut"]), (1,))
        self.assertEqual(reached(kitchen, ["cut", "fry"]), (1, 2))
        self.assertEqual(reached(kitchen, ["fry", "cut"]), (1,))

    def test_a_step_without_an_arrow_from_the_place(self):
        kitchen = kitchen_of("cut at a b go b a 0", "trace nut a 3", "trace nut b 3", "limit nut cut a 1", "limit nut cut b 1")
        self.assertEqual(reached(kitchen, ["cut"]), (1,))
        self.assertEqual(reached(kitchen_of("cut at a", "trace nut a 3", "limit nut cut a 1"), ["cut"]), ())

    def test_an_arrow_that_takes_all_counts(self):
        kitchen = kitchen_of("cut at a b go a b 9", "trace nut a 3", "limit nut cut a 3")
        self.assertEqual(reached(kitchen, ["cut"]), (0,))

    def test_its_own_trace_and_step(self):
        kitchen = kitchen_of("cut at a go a a 0", "fry at a go a a 0", "trace nut a 3", "limit egg cut a 1", "limit nut fry a 1")
        self.assertEqual(reached(kitchen, ["cut"]), ())
        self.assertEqual(reached(kitchen, ["cut", "fry"]), (1,))

    def test_a_limit_twice_and_in_any_order(self):
        kitchen = kitchen_of("cut at a go a a 0", "fry at a go a a 0", "trace nut a 3", "limit nut fry a 2",
                             "limit nut cut a 4", "limit nut cut a 1", "limit nut fry a 2")
        self.assertEqual(reached(kitchen, ["cut"]), (2,))
        self.assertEqual(reached(kitchen, ["cut", "fry"]), (0, 2, 3))

    def test_what_was_reached_stays_so(self):
        kitchen = kitchen_of("cut at a go a a 0", "wash at a", "trace nut a 3", "limit nut cut a 1")
        self.assertEqual(reached(kitchen, ["cut", "wash"]), (0,))
        self.assertEqual(reached(kitchen, ["wash", "cut"]), ())


class MetTest(unittest.TestCase):

    def test_the_example(self):
        self.assertEqual(met(kitchen_example(), ["chop", "toss"]), (("egg", "nut", "bowl"),))
        self.assertEqual(met(kitchen_example(), ["chop"]), ())

    def test_at_first(self):
        kitchen = kitchen_of("wash at a", "trace nut a 1", "trace egg a 1", "trace soy b 1", "trace egg b 4")
        self.assertEqual(met(kitchen, ()), (("egg", "nut", "a"), ("egg", "soy", "b")))
        self.assertEqual(met(kitchen, ["wash"]), (("egg", "nut", "a"), ("egg", "soy", "b")))

    def test_behind_a_step(self):
        kitchen = kitchen_of("mix at a b go a b 1, b b 0", "rinse at b", "trace nut a 2", "trace egg b 1")
        self.assertEqual(met(kitchen, []), ())
        self.assertEqual(met(kitchen, ["mix"]), (("egg", "nut", "b"),))
        self.assertEqual(met(kitchen, ["mix", "rinse"]), (("egg", "nut", "b"),))
        self.assertEqual(met(kitchen, ["rinse", "mix"]), ())

    def test_not_at_all(self):
        kitchen = kitchen_of("mix at a b go a b 2, b b 0", "trace nut a 2", "trace egg b 1")
        self.assertEqual(met(kitchen, ["mix"]), ())
        kitchen = kitchen_of("swap at a b go a b 0, b a 0", "trace nut a 2", "trace egg b 1")
        self.assertEqual(met(kitchen, ["swap"]), ())
        kitchen = kitchen_of("move at a b go a b 0", "trace nut a 2", "trace egg b 1", "trace nut c 1")
        self.assertEqual(met(kitchen, ["move"]), ())

    def test_one_trace_does_not_meet_itself(self):
        self.assertEqual(met(kitchen_of("mix at a b go a b 0, b b 0", "trace nut a 2", "trace nut b 2"), ["mix"]), ())

    def test_three_traces(self):
        kitchen = kitchen_of("mix at a b c go a b 0, c b 0, b b 0", "trace nut a 2", "trace egg b 1", "trace soy c 2")
        self.assertEqual(met(kitchen, ["mix"]), (("egg", "nut", "b"), ("egg", "soy", "b"), ("nut", "soy", "b")))


class PlainlyTest(unittest.TestCase):

    def test_against_looking_plainly(self):
        seen = [0, 0, 0]
        for kitchen in some_kitchens(31, 300, 4):
            for beginning in beginnings(kitchen.work):
                told = (levels(kitchen, beginning), reached(kitchen, beginning), met(kitchen, list(beginning)))
                self.assertEqual(told, cooked(kitchen, beginning), f"{kitchen}\n{beginning}")
                seen = [many + bool(part) for many, part in zip(seen, told)]
        self.assertGreater(min(seen), 100)

    def test_levels_just_ahead_of_a_step_are_those_of_the_ways_that_happen(self):
        for kitchen in some_kitchens(77, 40, 4):
            work = kitchen.work
            first = {(trace, place): level for trace, place, level in kitchen.traces}
            ways = [(way, last) for way, last in ways_and_lasts(work) if last is not None]
            for order in orders(work.names, work.ahead)[:6]:
                best = {}
                for way, last in ways:
                    if happens(work, way, last, order):
                        places = [way[0]] + [place for _, place in way[1:]]
                        lost = sum(work.step(name).loss(start, end) for start, (name, end) in zip(places, way[1:]))
                        for trace in ("nut", "egg", "soy"):
                            level = first.get((trace, way[0]), 0) - lost
                            if level > best.get((trace, places[-1], last), 0):
                                best[trace, places[-1], last] = level
                for at, name in enumerate(order):
                    there = {(trace, place): level for trace, place, level in levels(kitchen, order[:at])}
                    for place in work.step(name).places:
                        for trace in ("nut", "egg", "soy"):
                            self.assertEqual(there.get((trace, place), 0), best.get((trace, place, name), 0))

    def test_twenty_steps_and_more(self):
        names = [one + other for one in "abcde" for other in "fghijk"]
        places = [f"p{one}" for one in "abcdefghijklmnopqrstuvwxyzabcde"[:26]]
        steps = [Step(name, places[at % 20:at % 20 + 4], [(one, other, 1) for one in places[at % 20:at % 20 + 3]
                                                          for other in places[at % 20:at % 20 + 3]])
                 for at, name in enumerate(names)]
        traces = [(trace, places[0], 10 ** 18) for trace in ("a", "b", "c", "d", "e", "f", "g")]
        limits = [("a", name, step.places[0], 5) for name, step in zip(names, steps)]
        kitchen = Kitchen(Work(steps), traces, limits)
        self.assertIn(("a", "pu", 10 ** 18 - 20), levels(kitchen, names[:20]))
        self.assertEqual(reached(kitchen, names[:20]), tuple(range(20)))
        self.assertEqual(len({place for _, _, place in met(kitchen, names[:20])}), 22)


class InvalidRowTest(unittest.TestCase):

    def wrong(self, kitchen, value, at):
        for call in CALLS:
            with self.assertRaises(InvalidRow) as caught:
                call(kitchen, value)
            self.assertEqual(caught.exception.at, at, value)

    def test_any_values(self):
        kitchen = Kitchen(Work([Step("cut", ["board"]), Step("board", ["board"]), Step("wash", ["board"])]))
        for value in any_values():
            if value in ((), [], ("cut",), ["cut"], ("cut", "board"), ["cut", "board"]):
                for call in CALLS:
                    self.assertEqual(call(kitchen, value), ())
            elif value.__class__ not in (list, tuple):
                self.wrong(kitchen, value, 0)

    def test_each_thing(self):
        kitchen = Kitchen(plain(["chop", "cut", "wash"]))
        for value in (*any_values(), "fry", "Cut", kitchen):
            if value.__class__ is str and value == "cut":
                continue
            self.wrong(kitchen, [value], 0)
            self.wrong(kitchen, ("cut", value), 1)
            self.wrong(kitchen, ["cut", "wash", value, "fry"], 2)

    def test_what_cannot_be_next(self):
        kitchen = kitchen_example()
        for row, at in ((("toss",), 0), (("chop", "serve"), 1), (("chop", "chop"), 1), (("chop", "toss", "toss", None), 2),
                        (("cut", "serve", "toss", "chop"), 2), (("chop", "toss", "wash", "cut", "serve", "wash"), 5)):
            self.wrong(kitchen, row, at)
            self.wrong(kitchen, list(row), at)

    def test_all_rows(self):
        kitchen = kitchen_example()
        begun = set(beginnings(kitchen.work))
        for many in range(4):
            for row in permutations(kitchen.work.names, many):
                if row in begun:
                    continue
                self.wrong(kitchen, row, max(at for at in range(many) if row[:at] in begun))

    def test_texts_are_no_sequences(self):
        self.wrong(kitchen_example(), "chop", 0)
        self.wrong(Kitchen(plain("abc")), "abc", 0)


if __name__ == "__main__":
    unittest.main()
