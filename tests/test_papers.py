"""[20]: papers that show that a limit is reached in no order."""

import random
import unittest
from functools import lru_cache

from examples import (all_ways, any_values, example, fenced_example, kitchen_example, lasts, level_left, nested, some_kitchens,
                      thick_kitchens)
from plateways.basics import is_name
from plateways.errors import NoLimit
from plateways.kitchens import Kitchen
from plateways.papers import paper, paper_holds
from plateways.reaching import harms
from plateways.reasons import reason
from plateways.steps import Step
from plateways.works import Work
from test_reasons import changed, holds

RULES = ("work", "way", "first", "join", "before", "behind")


def kitchen_of(*lines):
    return Kitchen.read("\n".join(lines))


def calm_kitchen():
    return kitchen_example().with_work(fenced_example())


def end_of(way):
    return way[-1][1] if len(way) > 1 else way[0]


@lru_cache(maxsize=None)
def ways_of(text):
    """All ways of the work of this text from places that it touches, and for each one those longer by a hop."""
    ways = all_ways(Work.read(text))
    longer = {way: [] for way in ways}
    for way in ways:
        if len(way) > 1:
            longer[way[:-1]].append(way)
    return longer


def is_way(work, value):
    if value.__class__ is tuple and len(value) == 1 and value[0].__class__ is str:
        return is_name(value[0])
    return value in list(ways_of(str(work)))


def row_is_right(work, last, row):
    if row.__class__ is not tuple or len(row) != 3:
        return False
    way, is_last, lines = row
    if is_last.__class__ is not bool or lines.__class__ is not tuple or not is_way(work, way):
        return False
    if is_last:
        return last in lasts(work, way) and holds(work, way, last, lines)
    return lines == () or holds(work, way, None, lines)


def is_right(kitchen, at, value):
    """Whether any value is a right paper, by a plain look at the three rules."""
    trace, last, place, level = kitchen.limits[at]
    if value.__class__ is not tuple or not all(row_is_right(kitchen.work, last, row) for row in value):
        return False
    told = {row[:2] for row in value}
    if any(((spot,), False) not in told for name, spot, amount in kitchen.traces if name == trace and amount >= level):
        return False
    leads = any(start == place for start, _, _ in kitchen.work.step(last).arrows)
    for way, is_last, lines in value:
        if lines == () and level_left(kitchen, trace, way) >= level:
            for longer in ways_of(str(kitchen.work)).get(way, []):
                if level_left(kitchen, trace, longer) >= level and (longer, False) not in told:
                    return False
            if end_of(way) == place and last not in [name for name, _ in way[1:]] and leads and (way, True) not in told:
                return False
    return True


def papers(seed, many, most=4):
    """Kitchens with a number of a limit that is reached in no order, and its paper."""
    found = []
    for kitchen in [*some_kitchens(seed, many, most), *thick_kitchens(seed, many, most)]:
        found.extend((kitchen, at, paper(kitchen, at)) for at in range(len(kitchen.limits)) if at not in harms(kitchen))
    return found


class PaperTest(unittest.TestCase):

    def test_the_example(self):
        self.assertIsNone(paper(kitchen_example(), 0))
        calm = calm_kitchen()
        told = paper(calm, 0)
        self.assertTrue(is_right(calm, 0, told))
        self.assertIs(paper_holds(calm, 0, told), True)
        self.assertIs(paper_holds(kitchen_example(), 0, told), False)

    def test_right_just_where_the_limit_is_reached_in_no_order(self):
        many = [0, 0]
        words, kinds = set(), set()
        for kitchen in [*some_kitchens(701, 100), *thick_kitchens(701, 150)]:
            for at in range(len(kitchen.limits)):
                told = paper(kitchen, at)
                self.assertIs(told is None, at in harms(kitchen), str(kitchen))
                many[told is None] += 1
                if told is not None:
                    self.assertTrue(is_right(kitchen, at, told), f"{kitchen}\n{at}\n{told}")
                    self.assertIs(paper_holds(kitchen, at, told), True)
                    words |= {line[2] for row in told for line in row[2]}
                    kinds |= {(row[1], row[2] == ()) for row in told}
        self.assertGreater(min(many), 80)
        self.assertEqual(words, set(RULES))
        self.assertEqual(kinds, {(False, True), (False, False), (True, False)})

    def test_works_of_more_steps(self):
        many = 0
        for kitchen, at, told in papers(702, 12, 7):
            self.assertTrue(paper_holds(kitchen, at, told))
            if len(told) < 150:
                many += 1
                self.assertTrue(is_right(kitchen, at, told))
        self.assertGreater(many, 5)

    def test_tuples_and_bools(self):
        for _, _, told in papers(703, 20):
            self.assertIs(told.__class__, tuple)
            for row in told:
                self.assertEqual([part.__class__ for part in (row, *row)], [tuple, tuple, bool, tuple])

    def test_no_rows_where_the_trace_is_too_thin_at_first(self):
        kitchen = kitchen_of("cut at a go a a 0", "trace nut a 2", "trace egg a 9", "limit nut cut a 3", "limit soy cut a 1")
        self.assertEqual((paper(kitchen, 0), paper(kitchen, 1)), ((), ()))

    def test_a_step_without_an_arrow_needs_no_last_row(self):
        kitchen = kitchen_of("cut at a b go b b 0", "trace nut a 3", "limit nut cut a 3")
        self.assertEqual(paper(kitchen, 0), ((("a",), False, ()),))
        kitchen = kitchen_of("cut at a go a a 0", "wash at a", "ahead wash cut", "trace nut a 3", "limit nut cut a 3")
        told = paper(kitchen, 0)
        self.assertEqual({row[:2] for row in told}, {(("a",), False), (("a",), True), (("a", ("cut", "a")), False)})
        self.assertTrue(is_right(kitchen, 0, told))

    def test_no_limit(self):
        calm, none = calm_kitchen(), Kitchen(example())
        told = paper(calm, 0)
        for at in (-1, 1, 2, -2, 10 ** 18, -10 ** 18):
            for kitchen in (calm, kitchen_example(), none):
                for call in (paper, lambda kitchen, at: paper_holds(kitchen, at, told), lambda kitchen, at: paper_holds(kitchen, at, None)):
                    with self.assertRaises(NoLimit) as caught:
                        call(kitchen, at)
                    self.assertEqual(caught.exception.at, at)
        with self.assertRaises(NoLimit) as caught:
            paper_holds(none, 0, ())
        self.assertEqual(caught.exception.at, 0)


class HoldsTest(unittest.TestCase):

    def check(self, kitchen, at, value):
        known = is_right(kitchen, at, value)
        self.assertIs(paper_holds(kitchen, at, value), known, f"{kitchen}\n{at}\n{value}")
        return known

    def test_no_rows_at_all(self):
        self.assertIs(paper_holds(calm_kitchen(), 0, ()), False)
        self.assertIs(paper_holds(kitchen_example(), 0, ()), False)
        thin = Kitchen(example(), [("nut", "nuts", 2), ("egg", "bowl", 9)], [("nut", "serve", "plate", 3)])
        self.assertIs(paper_holds(thin, 0, ()), True)
        self.assertIs(paper_holds(thin, 0, []), False)

    def test_rows_left_out(self):
        for kitchen, at, told in papers(710, 40):
            for out in range(len(told)):
                value = told[:out] + told[out + 1:]
                self.assertIs(self.check(kitchen, at, value), False)

    def test_rows_twice_and_in_another_order(self):
        chance = random.Random(3)
        for kitchen, at, told in papers(711, 30):
            self.assertTrue(paper_holds(kitchen, at, told[::-1]))
            self.assertTrue(paper_holds(kitchen, at, told + told))
            self.assertTrue(paper_holds(kitchen, at, tuple(chance.sample(told, len(told)))))

    def test_needless_rows(self):
        for kitchen, at, told in papers(712, 40):
            for way in all_ways(kitchen.work)[:60]:
                self.check(kitchen, at, (*told, (way, False, ())))
                self.check(kitchen, at, ((way, False, ()), *told))
                for last in (None, kitchen.limits[at][1]):
                    if last in lasts(kitchen.work, way):
                        lines = reason(kitchen.work, way, last)
                        self.check(kitchen, at, (*told, (way, last is not None, () if lines is None else lines)))
        calm = calm_kitchen()
        value = (*paper(calm, 0), (("moon",), False, ()), (("bowl",), False, ()))
        self.assertIs(paper_holds(calm, 0, value), True)

    def test_reasons_cut_or_exchanged(self):
        chance = random.Random(4)
        many = {True: 0, False: 0}
        for kitchen, at, told in papers(713, 60):
            for spot, (way, is_last, lines) in enumerate(told):
                others = [row[2] for row in told]
                for value in (lines[:-1], lines[1:], (), lines + lines, chance.choice(others), list(lines)):
                    row = (way, is_last, value)
                    many[self.check(kitchen, at, (*told[:spot], row, *told[spot + 1:]))] += 1
                if lines:
                    row = (way, is_last, changed(chance, kitchen.work, lines))
                    many[self.check(kitchen, at, (*told[:spot], row, *told[spot + 1:]))] += 1
        self.assertGreater(min(many.values()), 50)

    def test_words_numbers_and_bools_otherwise(self):
        for kitchen, at, told in papers(714, 20):
            for spot, (way, is_last, lines) in enumerate(told):
                values = [(way, not is_last, lines), (way, int(is_last), lines), (way, None, lines), (list(way), is_last, lines),
                          [way, is_last, lines], (way, is_last), (way, is_last, lines, ()), (way, lines, is_last),
                          (way, is_last, None), (way, is_last, "work")]
                for index, line in enumerate(lines):
                    other = [(*line[:2], word, line[3]) for word in RULES]
                    other += [(*line[:3], tuple(number + more for number in line[3])) for more in (-1, 1)]
                    values += [(way, is_last, (*lines[:index], new, *lines[index + 1:])) for new in other]
                for row in values:
                    self.check(kitchen, at, (*told[:spot], row, *told[spot + 1:]))

    def test_a_last_step_that_the_way_cannot_have(self):
        calm = calm_kitchen()
        told = paper(calm, 0)
        lines = reason(calm.work, ("nuts", ("chop", "board"), ("cut", "plate")))
        for way in (("nuts", ("chop", "board")), ("moon",), ("plate", ("serve", "plate"))):
            for value in (lines, (), ((("serve", "serve", "work", ()),))):
                self.assertIs(self.check(calm, 0, (*told, (way, True, value))), False)

    def test_papers_of_other_kitchens(self):
        found = papers(715, 24, 3)
        rights = 0
        for kitchen, at, _ in found:
            for _, _, told in found[::5]:
                rights += self.check(kitchen, at, told)
        self.assertGreater(rights, 20)
        calm = calm_kitchen()
        thick = Kitchen(calm.work, [("nut", "nuts", 9)], calm.limits)
        self.assertIs(self.check(thick, 0, paper(calm, 0)), False)
        more = Kitchen(calm.work, [*calm.traces, ("nut", "moon", 3)], calm.limits)
        self.assertIs(self.check(more, 0, paper(calm, 0)), False)
        self.assertIs(self.check(more, 0, (*paper(calm, 0), (("moon",), False, ()))), True)

    def test_a_limit_that_is_reached_has_none(self):
        for kitchen in thick_kitchens(716, 60):
            for at in harms(kitchen):
                ways = [(way, False, ()) for way in all_ways(kitchen.work)]
                self.assertIs(paper_holds(kitchen, at, tuple(ways)), False)
                self.assertIs(paper_holds(kitchen, at, ()), False)

    def test_any_values(self):
        calm = calm_kitchen()
        told = paper(calm, 0)
        many = 0
        for value in (*any_values(), nested(8), [nested(7)], calm):
            for wrong in (value, (value,), (*told, value), (value, *told), [*told, value]):
                if wrong != told:
                    self.assertIs(paper_holds(calm, 0, wrong), False, wrong)
            for spot, row in ((0, told[0]), (len(told) - 1, told[-1])):
                for part in range(3):
                    if value != row[part] or value.__class__ is not row[part].__class__:
                        other = (*row[:part], value, *row[part + 1:])
                        self.check(calm, 0, (*told[:spot], other, *told[spot + 1:]))
                        many += 1
                for other in ((*row[:2], (*row[2], value)), (value, *row), (*row, value), row[:2], (*row[:2], (value,))):
                    self.assertIs(paper_holds(calm, 0, (*told[:spot], other, *told[spot + 1:])), False)
        self.assertGreater(many, 100)


class SizeTest(unittest.TestCase):

    def test_a_thousand_rows_and_more(self):
        places = ["p", "q", "r", "s"]
        for many, loss, level, least in ((5, 0, 14, 3000), (7, 3, 10, 15000)):
            steps = [Step("abcdefg"[at], places, [("p", "q", loss), ("q", "p", 0), ("p", "p", 1), ("q", "q", 2), ("r", "r", 0)])
                     for at in range(many)]
            kitchen = Kitchen(Work(steps, [("a", "b")]), [("nut", "p", level)], [("nut", "b", "r", 4)])
            told = paper(kitchen, 0)
            self.assertGreater(len(told), least)
            self.assertIs(paper_holds(kitchen, 0, told), True)
            self.assertIs(paper_holds(kitchen, 0, told[::-1]), True)
            for spot in (0, len(told) // 2, len(told) - 1):
                self.assertIs(paper_holds(kitchen, 0, told[:spot] + told[spot + 1:]), False)


if __name__ == "__main__":
    unittest.main()
