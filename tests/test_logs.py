"""[24]: what a log tells of a limit, which question settles it, and how many are needed; [4]: InvalidRow, then NoLimit."""

import random
import unittest
from itertools import combinations

from examples import any_values, cooked_plainly, kitchen_example, nested, orders, plain, reached_plainly, some_kitchens, thick_kitchens
from plateways.errors import InvalidRow, NoLimit
from plateways.kitchens import Kitchen
from plateways.logs import questions, settling, status
from plateways.works import Work


def kitchen_of(*lines):
    return Kitchen.read("\n".join(lines))


def fitting(rows, pairs):
    return tuple(row for row in rows if all(row.index(one) < row.index(other) for one, other in pairs))


class Plain:
    """What is known of a limit of a kitchen, by all orders cooked step by step."""

    def __init__(self, kitchen, at):
        behind = cooked_plainly(kitchen)
        self.work = kitchen.work
        self.rows = tuple(orders(kitchen.work.names, kitchen.work.ahead))
        self.harmed = {row for row in self.rows if at in reached_plainly(kitchen, behind, row)}
        self.pairs = list(combinations(sorted(kitchen.work.names), 2))
        self.known = {}

    def status(self, rows):
        harmed = [row in self.harmed for row in rows]
        return "clean" if not any(harmed) else "harmed" if all(harmed) else "open"

    def unknown(self, log):
        """The pairs of which neither the log nor the work tells, by going over what they tell till nothing is new."""
        told = set(self.work.ahead) | set(log)
        many = -1
        while many < len(told):
            many = len(told)
            told |= {(one, last) for one, middle in told for other, last in told if middle == other}
        return [pair for pair in self.pairs if pair not in told and pair[::-1] not in told]

    def settling(self, log):
        rows = fitting(self.rows, log)
        return tuple((one, other) for one, other in self.unknown(log)
                     if all(self.status(fitting(rows, [pair])) != "open" for pair in ((one, other), (other, one))))

    def questions(self, rows):
        """The least number of questions, each tried with all that can be asked behind it."""
        if rows not in self.known:
            found = []
            for one, other in self.pairs if self.status(rows) == "open" else ():
                halves = fitting(rows, [(one, other)]), fitting(rows, [(other, one)])
                if all(halves):
                    found.append(1 + max(self.questions(half) for half in halves))
            self.known[rows] = min(found, default=0)
        return self.known[rows]


def some_logs(chance, rows, many):
    """The empty log, a whole order, pairs that some order fits, a few of them twice."""
    logs = [[], list(zip(rows[0], rows[0][1:]))]
    for _ in range(many):
        row = chance.choice(rows)
        pairs = [pair for pair in combinations(row, 2) if chance.random() < 0.3]
        chance.shuffle(pairs)
        logs.append([*pairs, *pairs[:chance.randint(0, 1)]])
    return logs


class LogsTest(unittest.TestCase):

    def test_the_example(self):
        kitchen = kitchen_example()
        self.assertEqual(status(kitchen, [("cut", "chop")], 0), "clean")
        self.assertEqual(status(kitchen, [("chop", "cut"), ("wash", "chop")], 0), "harmed")
        self.assertEqual(status(kitchen, [], 0), "open")
        log = [("chop", "cut"), ("chop", "wash")]
        self.assertEqual(settling(kitchen, log, 0), (("cut", "wash"),))
        self.assertEqual((questions(kitchen, log, 0), questions(kitchen, [], 0)), (1, 3))

    def test_against_all_orders(self):
        chance = random.Random(70)
        found = {"clean": 0, "open": 0, "harmed": 0}
        settled = []
        for kitchen in [*some_kitchens(700, 30), *thick_kitchens(700, 60)]:
            for at in range(len(kitchen.limits)):
                known = Plain(kitchen, at)
                for log in some_logs(chance, known.rows, 3):
                    told = status(kitchen, log, at)
                    self.assertEqual(told, known.status(fitting(known.rows, log)), f"{kitchen}\n{log}")
                    self.assertEqual(settling(kitchen, log, at), known.settling(log), f"{kitchen}\n{log}")
                    found[told] += 1
                    settled.append((told, len(settling(kitchen, log, at))))
        self.assertGreater(min(found.values()), 30, found)
        for kind in (("open", 0), ("open", 1), ("clean", 0), ("clean", 1), ("harmed", 0)):
            self.assertGreater(settled.count(kind), 3, kind)

    def test_questions_against_all_questions(self):
        chance = random.Random(71)
        found = []
        free = [kitchen.with_work(Work(kitchen.work.steps)) for kitchen in [*thick_kitchens(711, 60, 4), *thick_kitchens(713, 10)]]
        for kitchen in [*some_kitchens(710, 10, 4), *thick_kitchens(710, 20, 4), *free]:
            for at in range(len(kitchen.limits)):
                known = Plain(kitchen, at)
                for log in some_logs(chance, known.rows, 2):
                    told = questions(kitchen, log, at)
                    self.assertEqual(told, known.questions(fitting(known.rows, log)), f"{kitchen}\n{log}\n{at}")
                    self.assertEqual(told == 0, status(kitchen, log, at) != "open")
                    found.append(told)
        for many in range(4):
            self.assertGreater(found.count(many), 3, many)
        self.assertGreater(max(found), 3)

    def test_one_question_is_enough_where_one_settles(self):
        for kitchen in thick_kitchens(720, 40):
            for at in range(len(kitchen.limits)):
                if status(kitchen, [], at) == "open":
                    self.assertEqual(questions(kitchen, [], at) == 1, len(settling(kitchen, [], at)) > 0, str(kitchen))

    def test_questions_that_are_chosen_by_answers(self):
        # The next question depends on who of a and b was first, so no row of two questions is enough for all orders.
        kitchen = kitchen_of("a at p go p p 0", "b at p", "c at p", "trace nut p 1", "limit nut a p 1")
        self.assertEqual(questions(kitchen, [], 0), 2)
        self.assertEqual(settling(kitchen, [], 0), ())
        self.assertEqual(settling(kitchen, [("a", "b")], 0), (("a", "c"),))
        self.assertEqual(settling(kitchen, [("b", "c")], 0), (("a", "b"),))
        self.assertEqual(questions(kitchen, [("b", "c")], 0), 1)

    def test_what_the_log_and_the_work_tell_together(self):
        kitchen = kitchen_of("a at p go p p 0", "b at q", "c at p", "ahead a b", "trace nut p 1", "limit nut c p 1", "limit nut a p 1")
        self.assertEqual(status(kitchen, [], 1), "open")
        self.assertEqual(status(kitchen, [("b", "c")], 1), "harmed")
        self.assertEqual(status(kitchen, [("c", "a")], 1), "clean")
        self.assertEqual(settling(kitchen, [], 1), (("a", "c"),))
        self.assertEqual(settling(kitchen, [("b", "c")], 1), ())

    def test_every_pair_settles_what_is_not_open(self):
        kitchen = kitchen_of("a at p", "b at q", "c at r", "trace nut q 1", "limit nut a p 1")
        self.assertEqual(status(kitchen, [], 0), "clean")
        self.assertEqual(settling(kitchen, [], 0), (("a", "b"), ("a", "c"), ("b", "c")))
        self.assertEqual(settling(kitchen, [("c", "b")], 0), (("a", "b"), ("a", "c")))
        self.assertEqual(settling(kitchen, [("c", "b"), ("a", "c")], 0), ())
        self.assertEqual(questions(kitchen, [], 0), 0)

    def test_names_ascend_not_numbers(self):
        kitchen = kitchen_of("z at p go p p 0", "y at p", "trace nut p 1", "limit nut z p 1")
        self.assertEqual(settling(kitchen, [], 0), (("y", "z"),))
        self.assertEqual(settling(kitchen, [("z", "y")], 0), ())
        self.assertEqual((status(kitchen, [("z", "y")], 0), status(kitchen, [("y", "z")], 0)), ("harmed", "clean"))

    def test_a_pair_twice_and_a_pair_of_the_work(self):
        kitchen = kitchen_example()
        for log in ([("chop", "toss"), ("chop", "cut"), ("chop", "toss"), ("chop", "cut"), ("chop", "wash")],
                    [("chop", "wash"), ("cut", "serve"), ("chop", "cut"), ("chop", "serve")]):
            self.assertEqual(status(kitchen, log, 0), "open")
            self.assertEqual(settling(kitchen, log, 0), (("cut", "wash"),))
            self.assertEqual(questions(kitchen, log, 0), 1)

    def test_whole_orders(self):
        kitchen = kitchen_example()
        known = Plain(kitchen, 0)
        for row in known.rows:
            for log in (list(zip(row, row[1:])), list(combinations(row, 2)), list(combinations(row, 2))[::-1]):
                self.assertEqual(status(kitchen, log, 0), "harmed" if row in known.harmed else "clean")
                self.assertEqual((settling(kitchen, log, 0), questions(kitchen, log, 0)), ((), 0))

    def test_each_limit_by_itself(self):
        kitchen = kitchen_example()
        more = Kitchen(kitchen.work, kitchen.traces, [("nut", "chop", "nuts", 5), *kitchen.limits, ("nut", "serve", "plate", 5)])
        self.assertEqual([status(more, [], at) for at in range(3)], ["harmed", "open", "clean"])
        self.assertEqual([questions(more, (), at) for at in range(3)], [0, 3, 0])

    def test_one_step(self):
        kitchen = kitchen_of("a at p go p p 0", "trace nut p 1", "limit nut a p 1", "limit nut a p 2")
        for at, known in ((0, "harmed"), (1, "clean")):
            self.assertEqual((status(kitchen, [], at), settling(kitchen, [], at), questions(kitchen, [], at)), (known, (), 0))

    def test_six_steps(self):
        for kitchen in thick_kitchens(730, 6, 6):
            known = Plain(kitchen, 0)
            self.assertEqual(status(kitchen, [], 0), known.status(known.rows))
            self.assertEqual(settling(kitchen, [], 0), known.settling([]))
            self.assertEqual(questions(kitchen, [], 0) == 0, known.status(known.rows) != "open")
        lines = ["a at r", "b at p q r go p q 0, q q 1, r r 0", "c at p q go p p 0, q q 0, q p 2", "d at q r go q r 0, r q 1", "e at p go p p 0",
                 "f at p r go p r 0, r r 0", "trace nut p 9", "trace nut q 4", "limit nut f r 3"]
        for kitchen in (kitchen_of(*lines), *[kitchen.with_work(Work(kitchen.work.steps)) for kitchen in thick_kitchens(731, 12, 6)]):
            many = questions(kitchen, [], 0)
            known = Plain(kitchen, 0)
            # By one question more than is left behind the worse answer to the best first one.
            left = [max(questions(kitchen, [(one, other)], 0), questions(kitchen, [(other, one)], 0)) for one, other in known.unknown([])]
            self.assertEqual(many, 1 + min(left) if known.status(known.rows) == "open" else 0)


class ErrorsTest(unittest.TestCase):

    def wrong(self, at, log, kitchen=None):
        for call in (status, settling, questions):
            # Number 9 is that of no limit, which would be told behind the log.
            for limit in (0, 9):
                with self.assertRaises(InvalidRow) as caught:
                    call(kitchen or kitchen_example(), log, limit)
                self.assertEqual(caught.exception.at, at, log)

    def test_any_values_as_logs(self):
        for value in (*any_values(), nested(8), "cut", {}):
            if value in ((), [], [("cut", "wash")]) and value.__class__ in (list, tuple):
                for call in (status, settling, questions):
                    call(kitchen_example(), value, 0)
            else:
                self.wrong(0, value)

    def test_any_values_in_logs(self):
        for value in any_values():
            if value != ("cut", "wash"):
                self.wrong(0, [value])
                self.wrong(1, (("chop", "cut"), value))
                self.wrong(2, [("chop", "cut"), ("chop", "wash"), value, None, ("cut", "chop")])
            for pair in ((value, "cut"), ("cut", value)):
                if value not in ("cut", "a"):
                    self.wrong(1, [("chop", "cut"), pair])

    def test_things_that_are_no_pairs(self):
        for value in (["chop", "cut"], ("chop", "chop"), ("chop", "fry"), ("fry", "chop"), ("chop",), ("chop", "cut", "wash"), (), "ab", ("chop", None)):
            self.wrong(1, [("chop", "wash"), value])

    def test_no_order_left(self):
        self.wrong(0, [("toss", "chop")])
        self.wrong(1, [("chop", "cut"), ("cut", "chop")])
        self.wrong(2, [("chop", "cut"), ("cut", "wash"), ("wash", "chop"), ("fry", "chop")])
        self.wrong(1, [("wash", "chop"), ("toss", "wash")])
        self.wrong(2, (("toss", "cut"), ("wash", "chop"), ("serve", "wash")))
        self.wrong(0, [("b", "a")], Kitchen(plain("abc", [("a", "b")])))
        self.wrong(0, [("c", "a")], Kitchen(plain("abc", [("a", "b"), ("b", "c")])))
        self.wrong(0, [("a", "a")], Kitchen(plain("a")))

    def test_the_first_wrong_one(self):
        self.wrong(1, [("chop", "cut"), None, ("cut", "chop")])
        self.wrong(1, [("chop", "cut"), ("cut", "chop"), None])
        self.wrong(0, ["chop", ("cut", "chop")])

    def test_limits(self):
        kitchen = kitchen_example()
        for call in (status, settling, questions):
            for at in (1, -1, 2, 10 ** 18, -10 ** 18):
                with self.assertRaises(NoLimit) as caught:
                    call(kitchen, [("chop", "cut")], at)
                self.assertEqual(caught.exception.at, at)
            with self.assertRaises(NoLimit):
                call(Kitchen(Work(kitchen.work.steps)), (), 0)


if __name__ == "__main__":
    unittest.main()
