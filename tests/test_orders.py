"""[7]: orders and beginnings, and how many orders there are."""

import random
import unittest
from itertools import permutations
from math import factorial

from examples import any_values, example, orders, plain
from plateways.works import is_beginning, is_order, many_orders


def some_works():
    chance = random.Random(23)
    for _ in range(60):
        names = ("a", "b", "c", "d", "e")[:chance.randint(1, 5)]
        rank = list(names)
        chance.shuffle(rank)
        many = chance.randint(0, 5) if len(names) > 1 else 0
        yield plain(names, [tuple(sorted(chance.sample(names, 2), key=rank.index)) for _ in range(many)])


class OrdersTest(unittest.TestCase):

    def test_the_example(self):
        work = example()
        self.assertEqual(many_orders(work), 30)
        self.assertIs(is_beginning(work, ("cut", "chop")), True)
        self.assertIs(is_beginning(work, ("serve",)), False)

    def test_against_all_rows(self):
        for work in some_works():
            rows = orders(work.names, work.ahead)
            self.assertEqual(many_orders(work), len(rows))
            begun = {row[:many] for row in rows for many in range(len(row) + 1)}
            for many in range(len(work) + 1):
                for row in permutations(work.names, many):
                    self.assertIs(is_beginning(work, row), row in begun)
                    self.assertIs(is_order(work, row), row in rows)

    def test_the_empty_beginning(self):
        self.assertIs(is_beginning(example(), ()), True)
        self.assertIs(is_order(example(), ()), False)

    def test_orders(self):
        work = example()
        self.assertIs(is_order(work, ("wash", "cut", "chop", "serve", "toss")), True)
        self.assertIs(is_order(work, ("wash", "cut", "chop", "serve")), False)
        self.assertIs(is_order(work, ("wash", "serve", "chop", "cut", "toss")), False)
        self.assertIs(is_order(work, ("wash", "cut", "chop", "serve", "toss", "wash")), False)

    def test_what_must_stand_ahead_by_way_of_others(self):
        work = plain("abc", [("a", "b"), ("b", "c")])
        for row, known in ((("a", "c"), False), (("c",), False), (("b",), False), (("a", "b", "c"), True)):
            self.assertIs(is_beginning(work, row), known)

    def test_no_step_twice(self):
        for row in (("cut", "cut"), ("chop", "toss", "chop"), ("wash", "cut", "wash")):
            self.assertIs(is_beginning(example(), row), False)

    def test_lists_are_no_orders(self):
        self.assertIs(is_beginning(example(), []), False)
        self.assertIs(is_beginning(example(), ["cut"]), False)
        self.assertIs(is_order(example(), ["wash", "cut", "chop", "serve", "toss"]), False)

    def test_any_values(self):
        for value in any_values():
            begun = value.__class__ is tuple and value in ((), ("cut",))
            self.assertIs(is_beginning(example(), value), begun)
            self.assertIs(is_order(example(), value), False)
            self.assertIs(is_beginning(example(), ("cut", value)), False)
            self.assertIs(is_order(example(), ("wash", "cut", "chop", "serve", value)), False)
            self.assertIs(is_order(plain(["cut"]), value), value.__class__ is tuple and value == ("cut",))

    def test_many_orders(self):
        for many in range(1, 9):
            names = "abcdefgh"[:many]
            self.assertEqual(many_orders(plain(names)), factorial(many))
            self.assertEqual(many_orders(plain(names, list(zip(names, names[1:])))), 1)
        self.assertEqual(many_orders(plain("abc", [("a", "b"), ("a", "b")])), 3)
        self.assertEqual(many_orders(plain("abcd", [("a", "b"), ("a", "c"), ("b", "d"), ("c", "d")])), 2)


if __name__ == "__main__":
    unittest.main()
