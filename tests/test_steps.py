"""[5]: steps, their texts and their errors."""

import random
import re
import unittest
from itertools import permutations

from examples import any_values
from plateways.errors import InvalidStep, InvalidText, NoPlace
from plateways.steps import Step

NAME = r"(?!(?:at|go|ahead|trace|limit|work)(?![a-z]))[a-z]{1,6}"
ARROW = rf"{NAME} {NAME} (?:0|[1-9][0-9]{{0,18}})"
FORM = re.compile(rf"{NAME} at {NAME}(?: {NAME})*(?: go {ARROW}(?:, {ARROW})*)?")
CUT = "cut at board plate go board board 0, board plate 1"


def cut():
    return Step("cut", ["plate", "board"], [("board", "plate", 1), ("board", "board", 0)])


class AttributesTest(unittest.TestCase):

    def test_attributes(self):
        step = cut()
        self.assertEqual(step.name, "cut")
        self.assertEqual(step.places, ("board", "plate"))
        self.assertEqual(step.arrows, (("board", "board", 0), ("board", "plate", 1)))

    def test_without_arrows(self):
        step = Step("wash", ["board"])
        self.assertEqual((step.name, step.places, step.arrows), ("wash", ("board",), ()))
        self.assertEqual(step, Step("wash", ["board"], []))

    def test_arrows_ascend_by_start_then_end(self):
        told = [("a", "b", 0), ("a", "a", 9), ("b", "a", 5), ("b", "b", 1)]
        for row in permutations(told):
            self.assertEqual(Step("cut", ["b", "a"], row).arrows, tuple(sorted(told)))

    def test_beyond_the_limits(self):
        places = ["a", "b", "c", "d", "e", "f"]
        arrows = [(one, other, 10 ** 18 + 1) for one in places for other in places]
        step = Step("cut", places, arrows)
        self.assertEqual((len(step.places), len(step.arrows)), (6, 36))
        self.assertEqual(step.loss("f", "a"), 10 ** 18 + 1)


class TextTest(unittest.TestCase):

    def test_text(self):
        self.assertEqual(str(cut()), CUT)
        self.assertEqual(str(Step("wash", ["pan", "board"])), "wash at board pan")
        self.assertEqual(str(Step("a", ["b"], [("b", "b", 10 ** 18)])), "a at b go b b 1000000000000000000")

    def test_equal_if_texts_are(self):
        self.assertEqual(cut(), Step.read(CUT))
        self.assertTrue(cut() == cut())
        self.assertFalse(cut() != cut())
        for other in ("cut at board plate go board board 0", "cut at board plate go board board 0, board plate 2",
                      "chop at board plate go board board 0, board plate 1", "cut at board plate",
                      "cut at board pan plate go board board 0, board plate 1",
                      "cut at board plate go board board 0, plate board 1"):
            self.assertFalse(cut() == Step.read(other), other)
            self.assertTrue(cut() != Step.read(other), other)

    def test_read_in_any_order(self):
        for places in permutations(("a", "b", "c")):
            for arrows in permutations(("a b 3", "b b 0", "c a 10")):
                step = Step.read(f"cut at {' '.join(places)} go {', '.join(arrows)}")
                self.assertEqual(str(step), "cut at a b c go a b 3, b b 0, c a 10")
                self.assertEqual(step.places, ("a", "b", "c"))

    def test_read_what_str_tells(self):
        for text in (CUT, "wash at board", "a at b go b b 0", "atgo at works go works works 9999999999999999999"):
            self.assertEqual(str(Step.read(text)), text)
        self.assertEqual(Step.read("a at b go b b 9999999999999999999").loss("b", "b"), 10 ** 19 - 1)

    def test_read_texts_not_of_the_form(self):
        for text in (
            "", " ", "cut", "cut at", "cut at ", "at board", "cut board", "cut on board", " cut at board",
            "cut at board ", "cut  at board", "cut at  board", "cut at board\n", "\ncut at board", "cut\tat board",
            "Cut at board", "cut at Board", "toolong at board", "cut at toolong", "cut at board1", "caf\u00e9 at board",
            "cut at board, plate", "cut at board go", "cut at board go ", "cut at board  go board board 0",
            "cut at go board board 0", "cut go board board 0", "cut at board go board board",
            "cut at board go board 0", "cut at board go board board 0 0", "cut at board go board board -1",
            "cut at board go board board +1", "cut at board go board board 00", "cut at board go board board 01",
            "cut at board go board board 1.0", "cut at board go board board x", "cut at board go board board ",
            "cut at board go board board \u0661", "cut at board go board board \u00b2", "cut at board go board board 1_0",
            "cut at board go board board 10000000000000000000", "cut at board go board board 0,",
            "cut at board go board board 0, ", "cut at board go , board board 0",
            "cut at board plate go board board 0,board plate 1", "cut at board plate go board board 0 board plate 1",
            "cut at board plate go board board 0 , board plate 1", "cut at board go board board 0\n",
            "cut at board plate go board board 0,  board plate 1", "cut at board go board board 0 go board board 0",
            "cut at board go go board 0", "cut at board go at board 0", "cut at at", "cut at work", "work at board",
            "ahead at board", "go at board", "at at board", "trace at board", "limit at board", "cut at limit",
            "cut at board ahead", "ahead cut chop", "cut at board go board trace 0", "cut at go go go go 0",
        ):
            with self.subTest(text), self.assertRaises(InvalidText) as caught:
                Step.read(text)
            self.assertEqual(caught.exception.at, 0)

    def test_read_texts_that_tell_no_step(self):
        for text, word in (
            ("cut at board board", "places"), ("cut at a b a", "places"),
            ("cut at board board go pan pan 0", "places"), ("cut at board go pan board 0", "arrows"),
            ("cut at board go board pan 0", "arrows"), ("cut at board go board board 0, board board 0", "arrows"),
            ("cut at a b go a b 0, b a 0, a b 1", "arrows"),
        ):
            with self.subTest(text), self.assertRaises(InvalidStep) as caught:
                Step.read(text)
            self.assertEqual(caught.exception.word, word)

    def test_read_against_a_pattern(self):
        chance = random.Random(5)
        pieces = ("cut", "a", "b", "at", "go", "work", "toolong", "0", "7", "07", ",", " ", " ", "\n", "A", "")
        starts = (CUT, "cut at a b go a b 3, b b 0", "a at b", "cut at b go b b 1")
        many = {True: 0, False: 0}
        for _ in range(4000):
            text = chance.choice(starts)
            for _ in range(chance.randint(0, 3)):
                at = chance.randint(0, len(text))
                text = text[:at] + chance.choice(pieces) + text[at + chance.randint(0, 3):]
            try:
                Step.read(text)
                formed = True
            except InvalidStep:
                formed = True
            except InvalidText:
                formed = False
            self.assertEqual(formed, FORM.fullmatch(text) is not None, text)
            many[formed] += 1
        self.assertGreater(min(many.values()), 500)


class ErrorsTest(unittest.TestCase):

    def wrong(self, word, name, places, arrows=()):
        with self.assertRaises(InvalidStep) as caught:
            Step(name, places, arrows)
        self.assertEqual(caught.exception.word, word)

    def test_names(self):
        for value in any_values():
            if value.__class__ is str and value in ("a", "cut", "board"):
                self.assertEqual(Step(value, ["pan"]).name, value)
            else:
                self.wrong("name", value, ["pan"])

    def test_places(self):
        for value in any_values():
            if value in (("cut",), ["cut"], ("cut", "board"), ["cut", "board"]):
                self.assertEqual(Step("cut", value).places, tuple(sorted(value)))
            else:
                self.wrong("places", "cut", value)
        for value in (["pan", "pan"], ["pan", "Pan"], ["pan", 1], ("pan", None), ("pan", ("dish",)), ["pan", ["pan"]],
                      ["pan", "at"], "pan", ["a", "b", "c", "a"]):
            self.wrong("places", "cut", value)

    def test_arrows(self):
        for value in any_values():
            if value in ((), [], [("board", "board", 0)]):
                self.assertEqual(Step("cut", ["board"], value).arrows, tuple(value))
            else:
                self.wrong("arrows", "cut", ["board"], value)

    def test_each_arrow(self):
        good = ("pan", "dish", 1)
        for value in any_values():
            for row in ([value], [good, value], (value, good)):
                self.wrong("arrows", "cut", ["pan", "dish"], row)
        for value in (("pan", "dish"), ("pan", "dish", 1, 1), ["pan", "dish", 1], ("pan", "bowl", 1), ("bowl", "pan", 1),
                      ("pan", "dish", -1), ("pan", "dish", "1"), ("pan", "dish", None), ("pan", "dish", True),
                      ("pan", "dish", False), ("pan", "dish", (1,)), (["pan"], "dish", 1), (1, "dish", 1),
                      (None, "dish", 1), (Step("pan", ["pan"]), "dish", 1), ("pan", ("dish",), 1)):
            self.wrong("arrows", "cut", ["pan", "dish"], [value])

    def test_no_two_arrows_between_the_same_places(self):
        self.wrong("arrows", "cut", ["pan", "dish"], [("pan", "dish", 1), ("pan", "dish", 1)])
        self.wrong("arrows", "cut", ["pan", "dish"], [("pan", "dish", 1), ("pan", "pan", 0), ("pan", "dish", 2)])
        self.assertEqual(len(Step("cut", ["pan", "dish"], [("pan", "dish", 1), ("dish", "pan", 1)]).arrows), 2)

    def test_the_first_wrong_argument(self):
        self.wrong("name", "Cut", [], [None])
        self.wrong("name", None, None, None)
        self.wrong("places", "cut", [], [None])
        self.wrong("places", "cut", ["pan", "pan"], [("bowl", "pan", 0)])
        self.wrong("arrows", "cut", ["pan"], None)


class LossTest(unittest.TestCase):

    def test_loss(self):
        step = cut()
        self.assertEqual(step.loss("board", "plate"), 1)
        self.assertEqual(step.loss("board", "board"), 0)
        self.assertIsNone(step.loss("plate", "board"))
        self.assertIsNone(step.loss("plate", "plate"))
        self.assertIsNone(step.loss("board", "bowl"))

    def test_loss_of_any_values(self):
        step = cut()
        for value in any_values():
            self.assertIsNone(step.loss(value, "plate") if value != "board" else None)
            self.assertIsNone(step.loss("plate", value))
            self.assertIsNone(step.loss(value, value) if value != "board" else None)


class WashedTest(unittest.TestCase):

    def test_washed(self):
        step = Step.read("cut at a b c go a a 0, a b 1, b a 2, c c 3")
        self.assertEqual(str(step.washed("a")), "cut at a b c go b a 2, c c 3")
        self.assertEqual(str(step.washed("b")), "cut at a b c go a a 0, a b 1, c c 3")
        self.assertEqual(str(step.washed("a").washed("b").washed("c")), "cut at a b c")
        self.assertEqual(step.washed("a").washed("a"), step.washed("a"))
        self.assertEqual(len(step.arrows), 4)

    def test_washed_where_nothing_starts(self):
        self.assertEqual(cut().washed("plate"), cut())

    def test_no_place(self):
        for value in (*any_values(), "bowl", ["board"], ("board",)):
            if value.__class__ is str and value == "board":
                continue
            with self.assertRaises(NoPlace) as caught:
                cut().washed(value)
            self.assertIs(caught.exception.name, value)


if __name__ == "__main__":
    unittest.main()
