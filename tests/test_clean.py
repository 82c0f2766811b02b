"""[23]: clean orders, and limits that are reached in all; [10]: InvalidRow."""

import unittest

from examples import (any_values, cooked_plainly, example, fenced_example, kitchen_example, nested, orders, plain, reached_plainly,
                      some_kitchens, thick_kitchens)
from plateways.clean import clean_next, clean_order, many_clean, surely
from plateways.cooking import reached
from plateways.errors import InvalidRow
from plateways.kitchens import Kitchen
from plateways.steps import Step
from plateways.works import Work, is_order


def kitchen_of(*lines):
    return Kitchen.read("\n".join(lines))


def clean_plainly(kitchen):
    """All clean orders, by the numbers of the steps, and all limits that are reached in all orders, cooked step by step."""
    behind = cooked_plainly(kitchen)
    told = {row: reached_plainly(kitchen, behind, row) for row in orders(kitchen.work.names, kitchen.work.ahead)}
    clean = [row for row in told if not told[row]]
    sure = [at for at in range(len(kitchen.limits)) if all(at in found for found in told.values())]
    return sorted(clean, key=lambda row: [kitchen.work.names.index(name) for name in row]), tuple(sure), list(behind)


class CleanTest(unittest.TestCase):

    def check(self, kitchen):
        """All four functions against all orders; how many clean ones there are, of how many."""
        clean, sure, beginnings = clean_plainly(kitchen)
        self.assertEqual(many_clean(kitchen), len(clean), str(kitchen))
        self.assertEqual(clean_order(kitchen), clean[0] if clean else None, str(kitchen))
        self.assertEqual(surely(kitchen), sure, str(kitchen))
        for row in beginnings:
            known = {order[len(row)] for order in clean if order[:len(row)] == row and len(order) > len(row)}
            told = clean_next(kitchen, row)
            self.assertIs(told.__class__, tuple)
            self.assertEqual(told, tuple(name for name in kitchen.work.names if name in known), f"{kitchen}\n{row}")
        return len(clean), len(orders(kitchen.work.names, kitchen.work.ahead)), len(sure)

    def test_the_example(self):
        kitchen = kitchen_example()
        self.assertEqual(many_clean(kitchen), 19)
        self.assertEqual(clean_order(kitchen), ("chop", "toss", "wash", "cut", "serve"))
        self.assertEqual(clean_next(kitchen, ["chop"]), ("toss", "wash"))
        self.assertEqual(surely(kitchen), ())
        self.assertEqual(self.check(kitchen), (19, 30, 0))
        self.check(kitchen.with_work(fenced_example()))

    def test_against_all_orders(self):
        kinds = {"all": 0, "some": 0, "none": 0, "sure": 0}
        for kitchen in [*some_kitchens(950, 60), *thick_kitchens(950, 120)]:
            clean, many, sure = self.check(kitchen)
            kinds["all" if clean == many else "some" if clean else "none"] += 1
            kinds["sure"] += sure
        self.assertGreater(min(kinds.values()), 25, kinds)

    def test_works_of_more_steps(self):
        found = [self.check(kitchen)[:2] for kitchen in thick_kitchens(955, 5, 6)]
        self.assertTrue(any(0 < clean < many for clean, many in found))

    def test_without_limits(self):
        self.assertEqual(many_clean(Kitchen(example())), 30)
        self.assertEqual(clean_order(Kitchen(example())), ("chop", "toss", "wash", "cut", "serve"))
        self.assertEqual(clean_next(Kitchen(example()), ()), ("chop", "wash", "cut"))
        self.assertEqual(surely(Kitchen(example())), ())

    def test_the_first_by_numbers_not_by_names(self):
        kitchen = kitchen_of("z at p", "y at p go p p 0", "x at p", "trace nut p 1", "limit nut y p 1")
        self.assertEqual(clean_order(kitchen), ("z", "y", "x"))
        self.assertEqual(clean_next(kitchen, ()), ("z", "x"))
        self.assertEqual(many_clean(kitchen), 4)

    def test_no_clean_order(self):
        kitchen = kitchen_of("a at p go p p 0", "b at q", "trace nut p 1", "limit nut a p 1")
        self.assertEqual((many_clean(kitchen), clean_order(kitchen), clean_next(kitchen, ()), surely(kitchen)), (0, None, (), (0,)))
        self.assertEqual(clean_next(kitchen, ("b",)), ())

    def test_no_clean_order_but_no_limit_for_sure(self):
        kitchen = kitchen_of("a at p go p p 0", "b at p", "c at p q go p p 0, q q 0", "ahead a b", "trace nut p 1", "limit nut a p 1",
                             "limit nut c p 1", "limit egg b p 1")
        self.assertEqual((many_clean(kitchen), surely(kitchen)), (0, (0,)))
        lines = ["a at p go p p 0", "b at p go p p 1", "trace nut p 1", "limit nut a p 1", "limit nut b p 1"]
        self.assertEqual((many_clean(kitchen_of(*lines)), surely(kitchen_of(*lines))), (0, (1,)))
        lines = ["a at p q go p p 0", "b at p q go q q 0", "trace nut p 1", "trace nut q 1", "limit nut a p 1", "limit nut b q 1"]
        self.assertEqual((many_clean(kitchen_of(*lines)), clean_order(kitchen_of(*lines)), surely(kitchen_of(*lines))), (0, None, ()))

    def test_behind_a_limit_that_was_reached(self):
        kitchen = kitchen_example()
        self.assertEqual(reached(kitchen, ("chop", "cut", "serve")), (0,))
        for row in (("chop", "cut", "serve"), ("chop", "cut", "serve", "toss"), ("chop", "cut"), ("chop", "cut", "wash")):
            self.assertEqual(clean_next(kitchen, row), ())

    def test_behind_the_last_step(self):
        kitchen = kitchen_example()
        order = clean_order(kitchen)
        self.assertEqual(clean_next(kitchen, order), ())
        self.assertEqual(clean_next(kitchen, order[:-1]), ("serve",))
        self.assertEqual(clean_next(kitchen, ["wash", "cut", "serve", "chop"]), ("toss",))

    def test_a_limit_that_is_reached_later_on_counts(self):
        kitchen = kitchen_of("a at p go p p 0", "w at p", "b at p go p p 0", "ahead a b", "trace nut p 2", "limit nut b p 2")
        self.assertEqual(clean_next(kitchen, ["a"]), ("w",))
        self.assertEqual(clean_next(kitchen, ["w"]), ("a",))
        self.assertEqual(many_clean(kitchen), 2)

    def test_clean_orders_are_orders(self):
        for kitchen in thick_kitchens(952, 40):
            order = clean_order(kitchen)
            if order is not None:
                self.assertIs(order.__class__, tuple)
                self.assertTrue(is_order(kitchen.work, order))
                self.assertEqual(reached(kitchen, order), ())
                for many, name in enumerate(order):
                    self.assertIn(name, clean_next(kitchen, order[:many]))


class InvalidRowTest(unittest.TestCase):

    def wrong(self, at, value):
        with self.assertRaises(InvalidRow) as caught:
            clean_next(kitchen_example(), value)
        self.assertEqual(caught.exception.at, at, value)

    def test_any_values(self):
        for value in (*any_values(), nested(8)):
            if value in ((), [], ("cut",), ["cut"]) and value.__class__ in (list, tuple):
                clean_next(kitchen_example(), value)
            elif value.__class__ in (list, tuple) and value and value[0] == "cut":
                self.wrong(1, value)
            else:
                self.wrong(0, value)
            if value != "cut" and value != "wash":
                self.wrong(2, ["wash", "cut", value])
                self.wrong(2, ("chop", "cut", value, None))

    def test_the_first_wrong_index(self):
        self.wrong(0, ["serve"])
        self.wrong(0, ["toss", "chop"])
        self.wrong(1, ("chop", "chop"))
        self.wrong(2, ["wash", "cut", "cut", "fry"])
        self.wrong(1, ["cut", "fry", "fry"])
        self.wrong(3, ["chop", "cut", "serve", "cut"])
        self.wrong(5, ["chop", "cut", "serve", "wash", "toss", "toss"])

    def test_also_where_no_order_is_clean(self):
        kitchen = kitchen_of("a at p go p p 0", "b at q", "trace nut p 1", "limit nut a p 1")
        for value, at in ((["a", "a"], 1), ("ab", 0), (["b", "a", "c"], 2), (None, 0)):
            with self.assertRaises(InvalidRow) as caught:
                clean_next(kitchen, value)
            self.assertEqual(caught.exception.at, at)


class SizeTest(unittest.TestCase):

    def test_seven_dense_steps_and_more(self):
        places = ["p", "q", "r", "s"]
        for many in (7, 8):
            steps = [Step("abcdefgh"[at], places, [("p", "p", at), ("p", "q", 2 * at + 1), ("q", "p", 3), ("q", "q", 9 - at),
                                                   ("q", "r", 1), ("r", "r", at * at)]) for at in range(many)]
            kitchen = Kitchen(Work(steps), [("nut", "p", 100), ("nut", "s", 90), ("egg", "q", 80)],
                              [("nut", "g", "p", 90), ("egg", "c", "r", 60), ("nut", "a", "q", 80)])
            clean, sure, _ = clean_plainly(kitchen) if many == 7 else ([], (), ())
            if many == 7:
                self.assertEqual((many_clean(kitchen), clean_order(kitchen), surely(kitchen)), (len(clean), clean[0], sure))
                self.assertTrue(0 < len(clean) < 5040)
            self.assertTrue(is_order(kitchen.work, clean_order(kitchen)))
            self.assertEqual(clean_next(kitchen, clean_order(kitchen)[:-1]), clean_order(kitchen)[-1:])

    def test_many_orders(self):
        self.assertEqual(many_clean(Kitchen(plain("abcdefgh"))), 40320)


if __name__ == "__main__":
    unittest.main()
