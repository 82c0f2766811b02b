"""What fences and logs rest on: orders by their numbers, and lots of them."""

import unittest

from examples import cooked_plainly, example, kitchen_example, orders, plain, reached_plainly, some_kitchens, some_works, thick_kitchens
from plateways.kitchens import Kitchen
from plateways.numbering import Orders


def rows_of(work):
    """All orders, by the numbers of their steps."""
    return sorted(orders(work.names, work.ahead), key=lambda row: [work.names.index(name) for name in row])


def lot_of(rows, kept):
    return sum(1 << at for at, row in enumerate(rows) if kept(row))


class NumberingTest(unittest.TestCase):

    def test_the_example(self):
        told = Orders(example())
        self.assertEqual(told.whole(), (1 << 30) - 1)
        self.assertEqual(bin(told.clean(kitchen_example(), kitchen_example().limits)).count("1"), 19)
        self.assertEqual(bin(told.by_pairs()["chop", "toss"]).count("1"), 30)
        self.assertEqual(told.by_pairs()["toss", "chop"], 0)

    def test_a_few_orders_by_hand(self):
        told = Orders(plain("abc", [("a", "b")]))
        # These are abc, acb, cab.
        self.assertEqual(told.whole(), 0b111)
        self.assertEqual(told.by_pairs(), {("a", "b"): 0b111, ("b", "a"): 0, ("a", "c"): 0b011, ("c", "a"): 0b100,
                                           ("b", "c"): 0b001, ("c", "b"): 0b110})
        self.assertEqual((Orders(plain("a")).whole(), Orders(plain("a")).by_pairs()), (1, {}))

    def test_pairs_against_all_orders(self):
        for work in [*some_works(60, 60), *some_works(61, 10, 6)]:
            rows, told = rows_of(work), Orders(work)
            self.assertEqual(told.whole(), lot_of(rows, lambda row: True))
            lots = told.by_pairs()
            self.assertEqual(sorted(lots), sorted((one, other) for one in work.names for other in work.names if one != other))
            for (one, other), lot in lots.items():
                self.assertEqual(lot, lot_of(rows, lambda row: row.index(one) < row.index(other)), f"{work}\n{one} {other}")

    def test_clean_orders_against_all_orders(self):
        for kitchen in [*some_kitchens(62, 40), *thick_kitchens(62, 60), *thick_kitchens(63, 5, 6)]:
            behind = cooked_plainly(kitchen)
            known = lot_of(rows_of(kitchen.work), lambda row: not reached_plainly(kitchen, behind, row))
            self.assertEqual(Orders(kitchen.work).clean(kitchen, kitchen.limits), known, str(kitchen))

    def test_the_same_orders_for_other_limits(self):
        kitchen = kitchen_example()
        told = Orders(kitchen.work)
        first = told.clean(kitchen, kitchen.limits)
        self.assertEqual(told.clean(kitchen, []), told.whole())
        self.assertEqual(told.clean(Kitchen(kitchen.work), kitchen.limits), told.whole())
        self.assertEqual(told.clean(kitchen, [*kitchen.limits, ("nut", "chop", "nuts", 5)]), 0)
        self.assertEqual(told.clean(kitchen, kitchen.limits), first)


if __name__ == "__main__":
    unittest.main()
