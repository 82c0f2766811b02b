"""[31]: live kitchens."""

import random
import unittest
from itertools import permutations

from examples import any_values, cooked_in_turn, example, kitchen_example, nested, orders, plain, some_kitchens, thick_kitchens, thick_step
from plateways.clean import clean_next
from plateways.cooking import levels, reached
from plateways.errors import InvalidWork, Refused
from plateways.kitchens import Kitchen
from plateways.live import Live
from plateways.steps import Step
from plateways.works import Work, is_beginning


def kitchen_of(*lines):
    return Kitchen.read("\n".join(lines))


def cooked(kitchen, row):
    """The levels behind a row of names of steps, and the limits that are reached in it."""
    return cooked_in_turn(kitchen, [kitchen.work.step(name) for name in row])


def clean_plainly(kitchen, done):
    """The names of the steps that can be next so that in some order no limit more is reached."""
    rest = [name for name in kitchen.work.names if name not in done]
    found = set()
    for row in permutations(rest):
        order = (*done, *row)
        if row and row[0] not in found and all(order.index(one) < order.index(other) for one, other in kitchen.work.ahead):
            if cooked(kitchen, order)[1] == cooked(kitchen, done)[1]:
                found.add(row[0])
    return tuple(name for name in kitchen.work.names if name in found)


def state(live):
    """All that can be seen of a live kitchen."""
    return str(live.kitchen), live.done, live.levels, live.reached, live.clean_next, len(live)


class Checks(unittest.TestCase):

    def check(self, live, kitchen, done, many):
        """All that can be seen, by plain cooking and all orders."""
        told = f"{kitchen}\n{done}"
        self.assertEqual((live.kitchen, live.done, len(live)), (kitchen, done, many), told)
        self.assertEqual((live.levels, live.reached), cooked(kitchen, done), told)
        self.assertEqual(live.clean_next, clean_plainly(kitchen, done), told)

    def refused(self, at, call, value):
        with self.assertRaises(Refused) as caught:
            call(value)
        self.assertEqual(caught.exception.at, at, value)

    def invalid(self, word, live, *told):
        with self.assertRaises(InvalidWork) as caught:
            live.add(*told)
        self.assertEqual(caught.exception.word, word, told)


class DoTest(Checks):

    def test_the_example(self):
        live = Live(kitchen_example())
        self.check(live, kitchen_example(), (), 0)
        self.assertEqual(live.do("chop"), ())
        self.assertEqual((live.done, live.clean_next), (("chop",), ("toss", "wash")))
        self.assertEqual(live.do("cut"), ())
        self.assertEqual(live.clean_next, ())
        self.assertEqual(live.do("serve"), (0,))
        self.assertEqual(live.reached, (0,))
        # The limit was reached, so there is nothing left to be kept from.
        self.assertEqual(live.clean_next, ("toss", "wash"))
        self.check(live, kitchen_example(), ("chop", "cut", "serve"), 3)
        live.several(["wash", "toss"])
        self.assertEqual((live.clean_next, len(live)), ((), 4))

    def test_each_beginning(self):
        for kitchen in [kitchen_example(), *some_kitchens(310, 6, 4), *thick_kitchens(310, 12, 4)]:
            seen = set()
            for row in orders(kitchen.work.names, kitchen.work.ahead):
                live = Live(kitchen)
                for many, name in enumerate(row, 1):
                    ahead = live.reached
                    told = live.do(name)
                    if row[:many] not in seen:
                        seen.add(row[:many])
                        self.check(live, kitchen, row[:many], many)
                        self.assertEqual(live.levels, levels(kitchen, row[:many]))
                        self.assertEqual(live.reached, reached(kitchen, row[:many]))
                        self.assertTrue(set(live.reached) - set(ahead) <= set(told) <= set(live.reached))
                        self.assertTrue(all(kitchen.limits[at][1] == name for at in told))

    def test_what_was_reached_by_the_step_alone(self):
        live = Live(kitchen_of("a at p go p p 0", "b at p go p p 1", "trace nut p 3", "limit nut b p 3", "limit nut a p 1", "limit nut b p 2", "limit nut b p 4"))
        self.assertEqual((live.do("a"), live.do("b"), live.reached), ((1,), (0, 2), (0, 1, 2)))

    def test_refused(self):
        kitchen = kitchen_example()
        for done in ((), ("chop",), ("wash", "cut"), ("chop", "toss", "wash", "cut", "serve")):
            live = Live(kitchen)
            live.several(done)
            first = state(live)
            can = [name for name in kitchen.work.names if is_beginning(kitchen.work, (*done, name))]
            for value in (*any_values(), *kitchen.work.names, nested(8), "fry", list(done), done):
                if value not in can:
                    self.refused(len(done), live.do, value)
            self.assertEqual(state(live), first)

    def test_clean_next_is_for_limits_that_were_not_reached_yet(self):
        lines = ["a at p go p p 0", "b at p q go p q 0, p p 0", "w at q", "c at q go q q 0", "ahead a b", "ahead b c", "trace nut p 2"]
        kitchen = kitchen_of(*lines, "limit nut a p 1", "limit nut c q 1")
        live = Live(kitchen)
        self.assertEqual((clean_next(kitchen, []), live.clean_next), ((), ()))
        self.assertEqual(live.do("a"), (0,))
        self.assertEqual((clean_next(kitchen, ["a"]), live.clean_next), ((), ("b",)))
        live.do("b")
        self.assertEqual(live.clean_next, ("w",))
        live.do("c")
        self.assertEqual((live.reached, live.clean_next), ((0, 1), ("w",)))


class SeveralTest(Checks):

    def test_several_and_one_by_one(self):
        for kitchen in [kitchen_example(), *thick_kitchens(311, 30, 5)]:
            row = orders(kitchen.work.names, kitchen.work.ahead)[-1]
            for many in range(len(row) + 1):
                one, other = Live(kitchen), Live(kitchen)
                told = sorted({at for name in row[:many] for at in one.do(name)})
                self.assertEqual(other.several(list(row[:many])), tuple(told))
                self.assertEqual((other.done, len(one), len(other)), (row[:many], many, 1))
                self.assertEqual(state(one)[:5], state(other)[:5])
                more = sorted({at for name in row[many:] for at in one.do(name)})
                self.assertEqual(other.several(row[many:]), tuple(more))

    def test_what_was_reached_by_them_alone(self):
        live = Live(kitchen_of("a at p go p p 0", "b at p go p p 0", "c at p go p p 0", "trace nut p 3", "limit nut c p 3", "limit nut a p 1", "limit nut b p 2"))
        self.assertEqual((live.do("a"), live.several(("c", "b")), live.reached), ((1,), (0, 2), (0, 1, 2)))

    def test_no_steps_are_a_deed(self):
        live = Live(kitchen_example())
        for value in ((), []):
            self.assertEqual(live.several(value), ())
        self.check(live, kitchen_example(), (), 2)
        self.assertEqual((live.undo(), live.undo(), live.undo(), len(live)), (True, True, False, 0))

    def test_refused(self):
        live = Live(kitchen_example())
        live.do("chop")
        first = state(live)
        for value in (*any_values(), "cut", nested(8)):
            if not (value.__class__ in (list, tuple) and value in ((), [], ("cut",), ["cut"])):
                known = 1 if value.__class__ in (list, tuple) and value and value[0] == "cut" else 0
                self.refused(known, live.several, value)
            if value not in ("cut", "wash", "toss"):
                self.refused(0, live.several, [value])
                self.refused(1, live.several, ("cut", value, "fry"))
                self.refused(2, live.several, ["cut", "serve", value])
        for names, at in ((["serve"], 0), (["cut", "cut"], 1), (["chop"], 0), (["toss", "wash", "chop"], 2), (["cut", "serve", "wash", "toss", "toss"], 4),
                          (["cut", "fry", "fry"], 1), (["wash", "serve", "cut"], 1)):
            self.refused(at, live.several, names)
        self.assertEqual(state(live), first)


class AddTest(Checks):

    def test_add(self):
        live = Live(kitchen_example())
        live.several(["chop", "cut"])
        fry, boil = Step("fry", ["plate", "pan"], [("plate", "pan", 0)]), Step("boil", ["pan"])
        self.assertIsNone(live.add(fry, ["cut", "toss"]))
        self.assertIsNone(live.add(boil))
        self.assertIsNone(live.add(after=("fry", "chop", "fry"), step=Step("bake", ["pan"])))
        work = live.kitchen.work
        self.assertEqual(work.names, ("chop", "toss", "wash", "cut", "serve", "fry", "boil", "bake"))
        self.assertEqual(work.ahead[2:], (("cut", "fry"), ("toss", "fry"), ("fry", "bake"), ("chop", "bake"), ("fry", "bake")))
        known = Kitchen(work, kitchen_example().traces, kitchen_example().limits)
        self.assertEqual((live.kitchen, live.done, len(live)), (known, ("chop", "cut"), 4))
        self.refused(2, live.do, "fry")
        live.several(["toss", "fry"])
        self.assertIn(("nut", "pan", 4), live.levels)
        self.check(live, known, ("chop", "cut", "toss", "fry"), 5)

    def test_a_step_more_may_spoil_or_save(self):
        live = Live(kitchen_of("a at p go p p 0", "trace nut p 3", "limit nut a p 2"))
        self.assertEqual(live.clean_next, ())
        live.add(Step("w", ["p"]))
        self.assertEqual(live.clean_next, ("w",))
        live.do("w")
        live.add(Step("b", ["p", "q"], [("q", "p", 0)]))
        self.assertEqual(live.clean_next, ("a", "b"))

    def test_errors(self):
        live = Live(kitchen_example())
        live.do("chop")
        first = state(live)
        fry = Step("fry", ["pan"])
        for value in (*any_values(), "fry", [fry]):
            if value.__class__ is not Step:
                self.invalid("steps", live, value)
                self.invalid("steps", live, value, None)
            if value.__class__ not in (list, tuple) or value not in ((), [], ("cut",), ["cut"], ("cut", "cut")):
                self.invalid("ahead", live, fry, value)
            if value != "cut":
                self.invalid("ahead", live, fry, [value])
                self.invalid("ahead", live, fry, ("chop", "cut", value))
        for step in example().steps:
            self.invalid("steps", live, step)
            self.invalid("steps", live, Step(step.name, ["moon"]), ["x"])
        self.invalid("ahead", live, fry, ["fry"])
        self.invalid("ahead", live, fry, "chop")
        self.invalid("ahead", live, fry, [("chop", "fry")])
        self.assertEqual(state(live), first)

    def test_a_name_is_free_again_behind_undo(self):
        live = Live(Kitchen(plain("a")))
        live.add(Step("b", ["pan"]), ["a"])
        self.invalid("steps", live, Step("b", ["pot"]))
        live.undo()
        live.add(Step("b", ["pot"]))
        self.assertEqual(str(live.kitchen), "a at pan\nb at pot")


class UndoTest(Checks):

    def test_undo(self):
        live = Live(kitchen_example())
        states = [state(live)]
        for deed in (lambda: live.do("chop"), lambda: live.several([]), lambda: live.add(Step("fry", ["plate"]), ["cut"]),
                     lambda: live.several(["cut", "serve"]), lambda: live.do("fry"), lambda: live.add(Step("boil", ["pan"]))):
            deed()
            states.append(state(live))
        self.assertEqual(len(live), 6)
        for known in states[-2::-1]:
            self.assertIs(live.undo(), True)
            self.assertEqual(state(live), known)
        for _ in range(3):
            self.assertIs(live.undo(), False)
            self.assertEqual(state(live), states[0])

    def test_what_was_refused_cannot_be_taken_back(self):
        live = Live(kitchen_example())
        live.do("wash")
        self.refused(1, live.do, "serve")
        self.refused(1, live.several, ["chop", "serve"])
        self.invalid("steps", live, Step("cut", ["pan"]))
        self.assertEqual((len(live), live.undo(), live.done, live.undo()), (1, True, (), False))


class WithinTest(Checks):

    def test_all_is_as_it_was(self):
        live = Live(kitchen_example())
        live.do("chop")
        live.several([])
        first, seen = state(live), []

        def deed(told):
            self.assertIs(told, live)
            told.do("cut")
            told.add(Step("fry", ["pan"]))
            seen.append(state(told))
            return told.do("serve")

        self.assertEqual(live.within(deed), (0,))
        self.assertEqual((seen[0][1], seen[0][5]), (("chop", "cut"), 4))
        self.assertEqual(state(live), first)
        self.assertEqual((live.undo(), live.undo(), live.undo()), (True, True, False))
        self.assertIsNone(live.within(deed=lambda told: None))
        self.assertIs(live.within(lambda told: told), live)

    def test_behind_errors(self):
        live = Live(kitchen_example())
        live.do("wash")
        first = state(live)

        def deed(told):
            told.several(["chop", "cut"])
            told.add(Step("fry", ["pan"]))
            told.do("nothing")

        with self.assertRaises(Refused) as caught:
            live.within(deed)
        self.assertEqual(caught.exception.at, 3)
        self.assertEqual(state(live), first)
        for error in (ZeroDivisionError, KeyError, KeyboardInterrupt):
            def failing(told):
                told.undo()
                raise error("x")
            with self.assertRaises(error):
                live.within(failing)
            self.assertEqual(state(live), first)

    def test_behind_undo_of_what_was_done_ahead(self):
        live = Live(kitchen_example())
        live.do("chop")
        live.add(Step("fry", ["pan"]))
        live.several(["cut"])
        first = state(live)

        def deed(told):
            taken = [told.undo() for _ in range(4)]
            told.several(["wash", "cut"])
            return taken, told.done, len(told)

        self.assertEqual(live.within(deed), ([True, True, True, False], ("wash", "cut"), 1))
        self.assertEqual(state(live), first)
        self.assertEqual([live.undo() for _ in range(4)], [True, True, True, False])
        self.assertEqual(state(live), state(Live(kitchen_example())))

    def test_within_another_within(self):
        live = Live(kitchen_example())
        live.do("chop")
        first, seen = state(live), []

        def inner(told):
            told.undo()
            told.undo()
            told.do("wash")
            seen.append((told.done, len(told)))
            raise ZeroDivisionError()

        def outer(told):
            told.do("toss")
            ahead = state(told)
            with self.assertRaises(ZeroDivisionError):
                told.within(inner)
            self.assertEqual(state(told), ahead)
            return told.within(lambda again: again.several(["cut", "serve"])), told.done

        self.assertEqual(live.within(outer), ((0,), ("chop", "toss")))
        self.assertEqual((state(live), seen), (first, [(("wash",), 1)]))


class DeedsTest(Checks):

    def test_many_deeds_against_plain_cooking(self):
        chance = random.Random(33)
        kinds = {"do": 0, "several": 0, "add": 0, "undo": 0, "refused": 0}
        for kitchen in [*thick_kitchens(330, 25, 4), *some_kitchens(330, 10, 4)]:
            live, done, past = Live(kitchen), (), []
            for _ in range(14):
                kind = chance.choice(("do", "do", "several", "add", "undo"))
                names = kitchen.work.names
                if kind == "do":
                    row = [chance.choice(names)]
                elif kind == "several":
                    row = chance.sample(names, min(len(names), chance.randint(0, 2)))
                if kind in ("do", "several"):
                    if is_beginning(kitchen.work, (*done, *row)):
                        known = set()
                        for many, name in enumerate(row):
                            known |= set(cooked(kitchen, (*done, *row[:many + 1]))[1]) - set(cooked(kitchen, (*done, *row[:many]))[1])
                        self.assertEqual(live.do(row[0]) if kind == "do" else live.several(row), tuple(sorted(known)))
                        past.append((kitchen, done))
                        done = (*done, *row)
                    else:
                        at = [many for many in range(len(row)) if not is_beginning(kitchen.work, (*done, *row[:many + 1]))][0]
                        self.refused(len(done) if kind == "do" else at, live.do if kind == "do" else live.several, row[0] if kind == "do" else row)
                        kind = "refused"
                elif kind == "add" and len(names) < 6:
                    after = chance.sample(names, min(len(names), chance.randint(0, 2)))
                    step = thick_step(chance, f"more{chr(ord('a') + len(names))}", ["pan", "pot", "dish"])
                    live.add(step, after)
                    past.append((kitchen, done))
                    work = Work([*kitchen.work.steps, step], [*kitchen.work.ahead, *[(name, step.name) for name in after]])
                    kitchen = Kitchen(work, kitchen.traces, kitchen.limits)
                elif kind == "undo":
                    self.assertIs(live.undo(), bool(past))
                    kitchen, done = past.pop() if past else (kitchen, done)
                kinds[kind] += 1
                self.check(live, kitchen, done, len(past))
        self.assertGreater(min(kinds.values()), 25, kinds)

    def test_forty_deeds_and_more(self):
        places = ["p", "q", "r", "s"]
        steps = [Step("abcdefgh"[at], places, [("p", "p", at), ("p", "q", 2 * at + 1), ("q", "p", 3), ("q", "q", 9 - at), ("q", "r", 1), ("r", "r", at * at)])
                 for at in range(8)]
        live = Live(Kitchen(Work(steps[:3]), [("nut", "p", 100), ("egg", "q", 80)], [("nut", "c", "p", 90), ("egg", "b", "r", 60), ("nut", "a", "q", 80)]))
        known = []
        for at in range(50):
            known.append(state(live))
            if at % 10 == 4 and 3 + at // 10 < 8:
                live.add(steps[3 + at // 10], live.kitchen.work.names[:1])
            elif at % 8 == 0 and len(live.done) < len(live.kitchen.work):
                live.do([name for name in live.kitchen.work.names if name not in live.done][0])
            else:
                live.several([])
        self.assertEqual((len(live), len(live.done), len(live.kitchen.work)), (50, 6, 8))
        for at in reversed(range(50)):
            self.assertIs(live.undo(), True)
            self.assertEqual(state(live), known[at])
        self.assertIs(live.undo(), False)

    def test_taken_back_again_and_again(self):
        live = Live(kitchen_example())
        first = state(live)
        for _ in range(500):
            live.do("chop")
            live.within(lambda told: told.several(["cut", "serve"]))
            live.undo()
        self.assertEqual(state(live), first)


class SideBySideTest(Checks):

    def test_two_of_one_kitchen(self):
        kitchen = kitchen_example()
        one, other = Live(kitchen), Live(kitchen)
        one.several(["chop", "cut"])
        one.add(Step("fry", ["pan"]))
        self.check(other, kitchen_example(), (), 0)
        other.do("wash")
        first = state(one)
        other.undo()
        other.do("cut")
        self.assertEqual(state(one), first)
        self.assertEqual((other.done, kitchen), (("cut",), kitchen_example()))
        one.within(lambda told: other.do("serve"))
        self.assertEqual((state(one), other.done), (first, ("cut", "serve")))

    def test_what_is_passed_may_be_changed_later(self):
        live = Live(kitchen_example())
        names, after = ["chop", "cut"], ["wash"]
        live.several(names)
        live.add(Step("fry", ["pan"]), after)
        first = state(live)
        self.assertEqual((names, after), (["chop", "cut"], ["wash"]))
        names.append("serve")
        after.clear()
        self.assertEqual(state(live), first)
        self.refused(2, live.do, "fry")

    def test_properties_cannot_be_set(self):
        live = Live(kitchen_example())
        for name in ("kitchen", "done", "levels", "reached", "clean_next"):
            with self.assertRaises(AttributeError):
                setattr(live, name, ())
            self.assertIsInstance(vars(Live)[name], property)

    def test_the_same_call_returns_the_same(self):
        live = Live(kitchen_example())
        live.do("chop")
        self.assertEqual(state(live), state(live))
        for value in (live.done, live.levels, live.levels[0], live.reached, live.clean_next, live.do("cut"), live.several(["serve"]), live.several([])):
            self.assertIs(value.__class__, tuple)

    def test_not_iterable(self):
        live = Live(kitchen_example())
        live.do("chop")
        for call in (iter, list, tuple, lambda value: "chop" in value, lambda value: value[0], lambda value: [*value]):
            with self.assertRaises(TypeError):
                call(live)
        self.assertEqual(len(live), 1)


if __name__ == "__main__":
    unittest.main()
