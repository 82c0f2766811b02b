"""[1], [2]: names, integers and sequences; what is passed, returned, compared and iterated."""

import unittest

from examples import LINES, any_values, example
from plateways.basics import is_integer, is_name, is_number, is_pair_of, is_sequence
from plateways.errors import InvalidStep, InvalidWork
from plateways.steps import Step
from plateways.works import Work, is_beginning, is_order, many_orders


class KindsTest(unittest.TestCase):

    def test_names(self):
        for name in ("a", "z", "board", "abcdef", "atgo", "works", "god", "limits"):
            self.assertTrue(is_name(name), name)
        for name in ("", "abcdefg", "at", "go", "ahead", "trace", "limit", "work", "Cut", "cuT", "c1", "c_t", "c t",
                     " cut", "cut ", "cut\n", "c-t", "caf\u00e9", "\u00e9", "\u0430", "`", "{", "\u00df"):
            self.assertFalse(is_name(name), name)
        for value in (0, True, None, ("a",), ["a"], b"a"):
            self.assertFalse(is_name(value))

    def test_integers(self):
        for value in (0, 1, -1, 10 ** 30):
            self.assertTrue(is_integer(value))
        for value in (True, False, None, "1", (1,), [1]):
            self.assertFalse(is_integer(value))

    def test_numbers(self):
        for value in (0, 1, 10 ** 18):
            self.assertTrue(is_number(value))
        for value in (-1, -10 ** 18, True, False, None, "0", (), []):
            self.assertFalse(is_number(value))

    def test_sequences(self):
        for value in any_values():
            self.assertEqual(is_sequence(value), value.__class__ in (list, tuple))

    def test_pairs(self):
        self.assertTrue(is_pair_of(("cut", "chop"), ("chop", "cut")))
        for value in (*any_values(), ("cut", "cut"), ("cut", "wash"), ("wash", "cut"), ["chop", "cut"],
                      ("cut", "chop", "cut"), ("cut", None), (True, "cut")):
            self.assertFalse(is_pair_of(("cut", "chop"), value))


class PassingTest(unittest.TestCase):

    def test_by_parameter_names(self):
        step = Step(name="cut", places=["pan", "dish"], arrows=[("pan", "dish", 2)])
        self.assertEqual(step, Step("cut", ["pan", "dish"], [("pan", "dish", 2)]))
        self.assertEqual(step.loss(start="pan", end="dish"), 2)
        self.assertEqual(step.loss(end="dish", start="pan"), 2)
        self.assertEqual(str(step.washed(place="pan")), "cut at dish pan")
        self.assertEqual(Step.read(text=str(step)), step)
        fry = Step(places=["pan"], name="fry")
        work = Work(steps=[step, fry], ahead=[("cut", "fry")])
        self.assertEqual(work, Work([step, fry], [("cut", "fry")]))
        self.assertEqual(work.step(name="fry"), fry)
        self.assertIs(work.is_ahead(one="cut", other="fry"), True)
        self.assertIs(work.is_ahead(other="cut", one="fry"), False)
        self.assertEqual(Work([step, fry]).fenced(pairs=[("cut", "fry")]), work)
        self.assertEqual(work.washed(pairs=[("cut", "pan")]).step("cut"), step.washed("pan"))
        self.assertEqual(Work.read(text=str(work)), work)
        self.assertIs(is_beginning(work=work, value=("cut",)), True)
        self.assertIs(is_order(work=work, value=("cut",)), False)
        self.assertEqual(many_orders(work=work), 1)

    def test_wrong_numbers_of_arguments(self):
        for call in (lambda: Step("cut"), lambda: Step("cut", ["pan"], (), ()), lambda: Work(),
                     lambda: example().is_ahead("cut"), lambda: is_order(example())):
            with self.assertRaises(TypeError):
                call()

    def test_lists_and_tuples(self):
        arrow = ("pan", "pan", 1)
        steps = [Step("cut", ["pan"], [arrow]), Step("cut", ("pan",), (arrow,)), Step("cut", ["pan"], (arrow,))]
        self.assertEqual(steps[0], steps[1])
        self.assertEqual(steps[1], steps[2])
        fry = Step("fry", ["pan"])
        pairs = [("cut", "fry")]
        works = [Work([steps[0], fry], pairs), Work((steps[1], fry), tuple(pairs)), Work([steps[2], fry], tuple(pairs))]
        self.assertEqual(works[0], works[1])
        self.assertEqual(works[1], works[2])
        plain = Work([steps[0], fry])
        self.assertEqual(plain.fenced(pairs), plain.fenced(tuple(pairs)))
        washed = [("cut", "pan")]
        self.assertEqual(plain.washed(washed), plain.washed(tuple(washed)))

    def test_arguments_stay_and_may_be_changed_later(self):
        places, arrows = ["pan", "dish"], [("pan", "dish", 2), ("dish", "dish", 0)]
        step = Step("cut", places, arrows)
        self.assertEqual((places, arrows), (["pan", "dish"], [("pan", "dish", 2), ("dish", "dish", 0)]))
        text = str(step)
        places.append("bowl")
        arrows.clear()
        self.assertEqual((str(step), step.places, len(step.arrows)), (text, ("dish", "pan"), 2))
        fry = Step("fry", ["pan"])
        steps, pairs = [step, fry], [("cut", "fry")]
        work = Work(steps, pairs)
        self.assertEqual((len(steps), pairs), (2, [("cut", "fry")]))
        text = str(work)
        steps.reverse()
        pairs.append(("fry", "cut"))
        self.assertEqual((str(work), work.names, work.ahead), (text, ("cut", "fry"), (("cut", "fry"),)))
        self.assertIs(work.is_ahead("fry", "cut"), False)
        more, washed = [("cut", "fry")], [("fry", "pan")]
        fenced, clean = work.fenced(more), work.washed(washed)
        self.assertEqual((more, washed), ([("cut", "fry")], [("fry", "pan")]))
        more.clear()
        washed.clear()
        self.assertEqual(fenced.ahead, (("cut", "fry"), ("cut", "fry")))
        self.assertEqual(str(work), text)
        self.assertEqual(str(clean), text)

    def test_sequences_are_tuples(self):
        step = Step("cut", ["pan", "dish"], [("pan", "dish", 2)])
        work = Work([step], [])
        read = Work.read("\n".join(LINES))
        for value in (step.places, step.arrows, Step.read(str(step)).places, Step.read(str(step)).arrows,
                      Step("cut", ["pan"]).arrows, step.washed("pan").arrows, work.steps, work.ahead, work.names,
                      work.places, work.heads, read.steps, read.ahead, read.names, read.places,
                      work.fenced([]).ahead, work.washed([]).steps):
            self.assertIs(value.__class__, tuple)

    def test_the_same_call_returns_the_same(self):
        work = example()
        first = (str(work), many_orders(work), work.is_ahead("chop", "toss"), work.step("cut").loss("board", "plate"))
        work.fenced([("serve", "wash")])
        work.washed([("cut", "board"), ("chop", "nuts")])
        work.step("cut").washed("board")
        with self.assertRaises(InvalidWork):
            work.fenced([("toss", "chop")])
        with self.assertRaises(InvalidStep):
            Step("cut", [])
        self.assertEqual(
            (str(work), many_orders(work), work.is_ahead("chop", "toss"), work.step("cut").loss("board", "plate")),
            first)
        self.assertEqual(str(work), str(example()))

    def test_not_iterable(self):
        for value in (Step("cut", ["pan"]), example()):
            with self.assertRaises(TypeError):
                iter(value)
            with self.assertRaises(TypeError):
                list(value)
            with self.assertRaises(TypeError):
                "cut" in value

    def test_equal_to_nothing_else(self):
        step = Step("cut", ["pan"])
        work = Work([step])
        self.assertEqual(str(step), str(work))
        self.assertFalse(step == work)
        self.assertFalse(work == step)
        self.assertTrue(step != work)
        for value in (None, True, 0, str(step), ("cut", ("pan",), ()), (step,), [step], object()):
            for thing in (step, work):
                self.assertIs(thing == value, False)
                self.assertIs(value == thing, False)
                self.assertIs(thing != value, True)

    def test_bools_are_no_integers(self):
        for less in (True, False):
            with self.assertRaises(InvalidStep) as caught:
                Step("cut", ["pan"], [("pan", "pan", less)])
            self.assertEqual(caught.exception.word, "arrows")


if __name__ == "__main__":
    unittest.main()
