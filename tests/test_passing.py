"""[1], [2], [3] for kitchens, cooking, ways and reasons: what is passed, returned, compared and iterated."""

import unittest

from examples import WAY, example, fenced_example, kitchen_example
from plateways.basics import is_level
from plateways.cooking import levels, met, reached
from plateways.errors import InvalidKitchen, InvalidRow, InvalidWay
from plateways.kitchens import Kitchen
from plateways.reasons import reason, reason_holds
from plateways.ways import can_happen, closed, loss, order_of
from plateways.works import Work, many_orders


def answers():
    """What many calls return, one behind another."""
    kitchen, fenced = kitchen_example(), fenced_example()
    work = kitchen.work
    return [
        str(kitchen), str(kitchen.with_work(fenced)), levels(kitchen, ("chop", "toss")), levels(kitchen, ()),
        reached(kitchen, ("chop", "cut", "serve")), met(kitchen, ("chop", "toss")), loss(work, WAY), closed(work, WAY),
        closed(work, WAY, "serve"), can_happen(work, WAY), can_happen(fenced, WAY), order_of(work, WAY, "serve"),
        order_of(fenced, WAY), reason(work, WAY), reason(fenced, WAY),
        reason_holds(fenced, WAY, None, reason(fenced, WAY)), many_orders(work),
    ]


class PassingTest(unittest.TestCase):

    def test_by_parameter_names(self):
        traces, limits = [("nut", "nuts", 5)], [("nut", "serve", "plate", 3)]
        kitchen = Kitchen(work=example(), traces=traces, limits=limits)
        self.assertEqual(kitchen, Kitchen(example(), traces, limits))
        self.assertEqual(Kitchen(limits=limits, work=example()), Kitchen(example(), (), limits))
        self.assertEqual(kitchen.with_work(work=fenced_example()), Kitchen(fenced_example(), traces, limits))
        self.assertEqual(Kitchen.read(text=str(kitchen)), kitchen)
        row = ("chop", "cut", "serve")
        self.assertEqual(levels(beginning=row, kitchen=kitchen), levels(kitchen, row))
        self.assertEqual(reached(kitchen=kitchen, beginning=row), (0,))
        self.assertEqual(met(kitchen=kitchen, beginning=row), ())
        work = fenced_example()
        self.assertEqual(loss(way=WAY, work=work), 1)
        for call in (closed, can_happen, order_of, reason):
            for last in (None, "serve"):
                self.assertEqual(call(last=last, way=WAY, work=work), call(work, WAY, last))
            self.assertEqual(call(work=work, way=WAY), call(work, WAY))
            self.assertEqual(call(work, WAY, last=None), call(work, WAY))
        self.assertIs(reason_holds(value=reason(work, WAY), last=None, way=WAY, work=work), True)

    def test_wrong_numbers_of_arguments(self):
        for call in (lambda: Kitchen(), lambda: Kitchen(example(), (), (), ()), lambda: levels(kitchen_example()),
                     lambda: reason_holds(example(), WAY, None), lambda: loss(example(), WAY, None)):
            with self.assertRaises(TypeError):
                call()

    def test_lists_and_tuples(self):
        traces, limits = [("nut", "nuts", 5)], [("nut", "serve", "plate", 3)]
        self.assertEqual(Kitchen(example(), traces, limits), Kitchen(example(), tuple(traces), tuple(limits)))
        for row in ([], ["chop"], ["chop", "cut", "toss", "serve"]):
            for call in (levels, reached, met):
                self.assertEqual(call(kitchen_example(), row), call(kitchen_example(), tuple(row)))

    def test_arguments_stay_and_may_be_changed_later(self):
        traces, limits, row = [("nut", "nuts", 5)], [("nut", "serve", "plate", 3)], ["chop", "cut", "serve"]
        kitchen = Kitchen(example(), traces, limits)
        told = (levels(kitchen, row), reached(kitchen, row), met(kitchen, row))
        self.assertEqual((traces, limits, row), ([("nut", "nuts", 5)], [("nut", "serve", "plate", 3)], ["chop", "cut", "serve"]))
        text = str(kitchen)
        traces.append(("egg", "bowl", 1))
        limits.clear()
        row.reverse()
        self.assertEqual((str(kitchen), kitchen.traces), (text, (("nut", "nuts", 5),)))
        self.assertEqual(kitchen.limits, (("nut", "serve", "plate", 3),))
        row.reverse()
        self.assertEqual((levels(kitchen, row), reached(kitchen, row), met(kitchen, row)), told)

    def test_sequences_are_tuples(self):
        kitchen = Kitchen(example(), [("nut", "nuts", 5)], [("nut", "serve", "plate", 3)])
        read = kitchen_example()
        for value in (kitchen.traces, kitchen.limits, read.traces, read.limits, Kitchen(example(), [], []).traces,
                      kitchen.with_work(example()).traces, read.traces[0], read.limits[0],
                      levels(read, ["chop"]), levels(read, [])[0], reached(read, ["chop"]), met(read, ["chop", "toss"]),
                      met(read, ["chop", "toss"])[0], closed(example(), WAY), closed(example(), WAY)[0],
                      order_of(example(), WAY), reason(fenced_example(), WAY), reason(fenced_example(), WAY)[0]):
            self.assertIs(value.__class__, tuple)

    def test_the_same_call_returns_the_same(self):
        first = answers()
        kitchen = kitchen_example()
        kitchen.with_work(fenced_example())
        for call in (lambda: kitchen.with_work(None), lambda: Kitchen(example(), [("nut", "nuts", 0)])):
            with self.assertRaises(InvalidKitchen):
                call()
        with self.assertRaises(InvalidRow):
            levels(kitchen, ["serve"])
        with self.assertRaises(InvalidWay):
            closed(example(), WAY, "cut")
        self.assertEqual(answers(), first)
        self.assertEqual(answers()[::-1], first[::-1])
        self.assertEqual(str(kitchen), str(kitchen_example()))

    def test_not_iterable(self):
        for call in (iter, list, tuple, len, lambda value: "nut" in value, lambda value: value[0]):
            with self.assertRaises(TypeError):
                call(kitchen_example())

    def test_equal_to_nothing_else(self):
        kitchen = Kitchen(example())
        self.assertEqual(str(kitchen), str(kitchen.work))
        for value in (kitchen.work, None, True, 0, str(kitchen), (example(), (), ()), [kitchen], (kitchen,), object()):
            self.assertIs(kitchen == value, False)
            self.assertIs(value == kitchen, False)
            self.assertIs(kitchen != value, True)

    def test_levels_of_traces(self):
        for value in (1, 2, 10 ** 30):
            self.assertTrue(is_level(value))
        for value in (0, -1, True, False, None, "1", (1,), [1]):
            self.assertFalse(is_level(value))

    def test_answers_are_bools(self):
        for value in (can_happen(example(), WAY), reason_holds(example(), WAY, None, 1), kitchen_example() == Kitchen(example())):
            self.assertIs(value.__class__, bool)

    def test_twenty_steps(self):
        lines = [f"{one}{other} at {one} {other} go {one} {other} 1, {one} {one} 0" for one in "abcde" for other in "wxyz"]
        lines.append("ahead aw bw")
        lines.append("trace nut a 9")
        kitchen = Kitchen.read("\n".join(lines))
        way = ("a", ("aw", "a"), ("ax", "a"), ("ay", "a"), ("az", "z"))
        self.assertEqual(len(levels(kitchen, kitchen.work.names)), 1)
        self.assertEqual(loss(kitchen.work, way), 1)
        self.assertTrue(can_happen(kitchen.work, way, "bz"))
        self.assertIsInstance(kitchen.work, Work)


if __name__ == "__main__":
    unittest.main()
