"""[8]: kitchens, their texts and their errors."""

import random
import re
import unittest

from examples import KITCHEN_LINES, LINES, any_values, example, fenced_example, kitchen_example, plain, some_kitchens
from plateways.errors import InvalidKitchen, InvalidStep, InvalidText, InvalidWork
from plateways.kitchens import Kitchen
from plateways.steps import Step
from plateways.works import Work

TRACES = (("nut", "nuts", 5), ("egg", "bowl", 2), ("nut", "moon", 1))
LIMITS = (("nut", "serve", "plate", 3), ("soy", "cut", "board", 1), ("nut", "serve", "plate", 3))


def two_steps():
    return Work([Step("cut", ["board", "plate"]), Step("wash", ["board"])])


class AttributesTest(unittest.TestCase):

    def test_attributes(self):
        work = example()
        kitchen = Kitchen(work, TRACES, LIMITS)
        self.assertEqual(kitchen.work, work)
        self.assertEqual(kitchen.traces, TRACES)
        self.assertEqual(kitchen.limits, LIMITS)

    def test_without_traces_and_limits(self):
        kitchen = Kitchen(example())
        self.assertEqual((kitchen.work, kitchen.traces, kitchen.limits), (example(), (), ()))
        self.assertEqual(Kitchen(example(), TRACES).limits, ())

    def test_the_example(self):
        kitchen = kitchen_example()
        self.assertEqual(kitchen.work, example())
        self.assertEqual(kitchen.traces, (("egg", "bowl", 2), ("nut", "nuts", 5)))
        self.assertEqual(kitchen.limits, (("nut", "serve", "plate", 3),))

    def test_traces_at_places_that_no_step_touches(self):
        self.assertEqual(Kitchen(example(), [("nut", "moon", 1)]).traces, (("nut", "moon", 1),))

    def test_one_trace_at_two_places_and_two_at_one(self):
        traces = (("nut", "board", 1), ("nut", "bowl", 1), ("egg", "board", 1))
        self.assertEqual(Kitchen(example(), traces).traces, traces)

    def test_beyond_the_limits(self):
        names = ("a", "b", "c", "d", "e", "f", "g")
        traces = [(name, "pan", 10 ** 18 + 1) for name in names]
        limits = [(name, "cut", "pan", 10 ** 19) for name in names]
        kitchen = Kitchen(plain(["cut"]), traces, limits)
        self.assertEqual((len(kitchen.traces), len(kitchen.limits)), (7, 7))


class ErrorsTest(unittest.TestCase):

    def wrong(self, word, work, traces=(), limits=()):
        with self.assertRaises(InvalidKitchen) as caught:
            Kitchen(work, traces, limits)
        self.assertEqual(caught.exception.word, word)

    def test_work(self):
        for value in any_values():
            if value.__class__ is Work:
                self.assertEqual(Kitchen(value).work, value)
            else:
                self.wrong("work", value)
        self.wrong("work", str(example()))
        self.wrong("work", kitchen_example())
        self.wrong("work", [example()])

    def test_traces(self):
        for value in any_values():
            if value in ((), [], [("nut", "board", 3)]):
                self.assertEqual(Kitchen(two_steps(), value).traces, tuple(value))
            else:
                self.wrong("traces", two_steps(), value)

    def test_each_trace(self):
        good = ("nut", "board", 1)
        values = (("nut", "board"), ("nut", "board", 1, 1), ["nut", "pan", 1], ("Nut", "pan", 1), ("nut", "Pan", 1),
                  ("work", "pan", 1), ("nut", "at", 1), ("nut", "pan", 0), ("nut", "pan", -1), ("nut", "pan", True),
                  ("nut", "pan", False), ("nut", "pan", None), ("nut", "pan", "1"), ("nut", "pan", (1,)), (1, "pan", 1),
                  ("nut", None, 1), ("nut", ["pan"], 1), (("nut",), "pan", 1), ("nut", "toolong", 1), ("", "pan", 1),
                  (Step("nut", ["pan"]), "pan", 1), ("nut", "pan", [1]), ("nut", 3, "pan"), ("nut", "board", 1))
        for value in (*any_values(), *values):
            self.wrong("traces", two_steps(), [good, value])
            self.wrong("traces", two_steps(), (value, good))

    def test_no_two_traces_of_one_name_at_one_place(self):
        self.wrong("traces", example(), [("nut", "pan", 1), ("nut", "pan", 1)])
        self.wrong("traces", example(), [("nut", "pan", 1), ("egg", "pan", 1), ("nut", "pan", 2)])

    def test_limits(self):
        for value in any_values():
            if value in ((), [], [("nut", "cut", "board", 3)]):
                self.assertEqual(Kitchen(two_steps(), (), value).limits, tuple(value))
            else:
                self.wrong("limits", two_steps(), (), value)

    def test_each_limit(self):
        good = ("nut", "wash", "board", 1)
        values = (("nut", "cut", "board"), ("nut", "cut", "board", 1, 1), ["nut", "cut", "board", 1],
                  ("Nut", "cut", "board", 1), ("limit", "cut", "board", 1), (None, "cut", "board", 1),
                  ("nut", "fry", "board", 1), ("nut", "Cut", "board", 1), ("nut", ["cut"], "board", 1),
                  ("nut", ("cut",), "board", 1), ("nut", None, "board", 1), ("nut", Step("cut", ["board"]), "board", 1),
                  ("nut", "cut", "bowl", 1), ("nut", "wash", "plate", 1), ("nut", "cut", None, 1),
                  ("nut", "cut", ["board"], 1), ("nut", "cut", ("board", "plate"), 1), ("nut", "cut", "board", 0),
                  ("nut", "cut", "board", -1), ("nut", "cut", "board", True), ("nut", "cut", "board", False),
                  ("nut", "cut", "board", None), ("nut", "cut", "board", "1"), ("nut", "cut", "board", (1,)),
                  ("nut", "board", "cut", 1), ("cut", "board", 1))
        for value in (*any_values(), *values):
            self.wrong("limits", two_steps(), (), [good, value])
            self.wrong("limits", two_steps(), (), (value, good))

    def test_a_limit_twice(self):
        self.assertEqual(Kitchen(two_steps(), (), [("nut", "cut", "board", 1)] * 2).limits, (("nut", "cut", "board", 1),) * 2)

    def test_the_first_wrong_argument(self):
        self.wrong("work", None, None, None)
        self.wrong("work", "cut at pan", [("nut", "pan", 0)])
        self.wrong("traces", example(), None, None)
        self.wrong("traces", example(), [("nut", "pan", 0)], [("nut", "fry", "pan", 1)])
        self.wrong("limits", example(), [("nut", "pan", 1)], [("nut", "fry", "pan", 1)])


class WithWorkTest(unittest.TestCase):

    def test_with_work(self):
        kitchen = kitchen_example()
        calm = kitchen.with_work(fenced_example())
        self.assertEqual(calm, Kitchen(fenced_example(), kitchen.traces, kitchen.limits))
        self.assertEqual((calm.work, calm.traces, calm.limits), (fenced_example(), kitchen.traces, kitchen.limits))
        self.assertEqual(kitchen, kitchen_example())
        self.assertEqual(kitchen.with_work(kitchen.work), kitchen)

    def test_errors(self):
        kitchen = Kitchen(two_steps(), TRACES, [("nut", "cut", "board", 1)])
        for value in any_values():
            if value.__class__ is Work:
                self.assertEqual(kitchen.with_work(value).work, value)
                continue
            with self.assertRaises(InvalidKitchen) as caught:
                kitchen.with_work(value)
            self.assertEqual(caught.exception.word, "work")
        for work in (plain(["cut"]), plain(["wash"]), Work([Step("wash", ["board"]), Step("cut", ["plate"])])):
            with self.assertRaises(InvalidKitchen) as caught:
                kitchen.with_work(work)
            self.assertEqual(caught.exception.word, "limits")
        self.assertEqual(Kitchen(two_steps(), TRACES).with_work(plain(["fry"])), Kitchen(plain(["fry"]), TRACES))


class TextTest(unittest.TestCase):

    def test_text(self):
        self.assertEqual(str(Kitchen(two_steps())), str(two_steps()))
        kitchen = Kitchen(plain(["b", "a"], [("b", "a")]), [("nut", "pot", 10 ** 18), ("egg", "pan", 1)],
                          [("soy", "a", "pan", 2), ("egg", "b", "pan", 3)])
        self.assertEqual(str(kitchen), "b at pan\na at pan\nahead b a\ntrace nut pot 1000000000000000000\n"
                                       "trace egg pan 1\nlimit soy a pan 2\nlimit egg b pan 3")
        self.assertEqual(str(kitchen_example()).split("\n")[5:], list(KITCHEN_LINES[5:]))

    def test_read_what_str_tells(self):
        for kitchen in some_kitchens(4, 60):
            again = Kitchen.read(str(kitchen))
            self.assertEqual(again, kitchen)
            self.assertEqual((again.work, again.traces, again.limits), (kitchen.work, kitchen.traces, kitchen.limits))
            self.assertEqual(str(again), str(kitchen))

    def test_equal_if_texts_are(self):
        kitchen = Kitchen(example(), TRACES, LIMITS)
        self.assertTrue(kitchen == Kitchen(example(), list(TRACES), list(LIMITS)))
        self.assertFalse(kitchen != Kitchen(example(), list(TRACES), list(LIMITS)))
        for other in (Kitchen(example()), Kitchen(example(), TRACES), Kitchen(example(), (), LIMITS),
                      Kitchen(example(), TRACES[::-1], LIMITS), Kitchen(example(), TRACES, LIMITS[1:]),
                      Kitchen(example(), TRACES, LIMITS[:2]), Kitchen(fenced_example(), TRACES, LIMITS),
                      Kitchen(example(), (("nut", "nuts", 4), *TRACES[1:]), LIMITS)):
            self.assertFalse(kitchen == other)
            self.assertTrue(kitchen != other)

    def test_places_and_arrows_in_any_order(self):
        text = "cut at plate board go board plate 1, board board 0\ntrace nut board 2\nlimit nut cut board 1"
        self.assertEqual(str(Kitchen.read(text)), "cut at board plate go board board 0, board plate 1\n"
                                                  "trace nut board 2\nlimit nut cut board 1")

    def test_lines_that_cannot_stand_there(self):
        cut, wash, pair = "cut at pan", "wash at pan", "ahead cut wash"
        trace, limit = "trace nut pan 3", "limit nut cut pan 3"
        for lines, at in (
            ([""], 0), ([trace], 0), ([limit], 0), ([pair, trace], 0), (["work", cut], 0), ([cut, "work"], 1),
            ([cut, ""], 1), (["", cut], 0), ([cut, trace, ""], 2), ([cut, limit, ""], 2), ([cut, "", trace], 1),
            ([cut, trace, wash], 2), ([cut, limit, wash], 2), ([cut, wash, pair, cut], 3), ([cut, trace, cut], 2),
            ([cut, wash, trace, pair], 3), ([cut, wash, pair, limit, pair], 4), ([cut, limit, trace], 2),
            ([cut, trace, limit, trace], 3), ([cut, trace, trace, limit, limit, cut], 5),
            ([cut, "trace nut pan"], 1), ([cut, "trace nut pan 3 3"], 1), ([cut, "trace nut pan x"], 1),
            ([cut, "trace nut pan 03"], 1), ([cut, "trace nut pan 00"], 1), ([cut, "trace nut pan -3"], 1),
            ([cut, "trace nut pan +3"], 1), ([cut, "trace nut pan 10000000000000000000"], 1),
            ([cut, "trace nut pan "], 1), ([cut, "trace  nut pan 3"], 1), ([cut, "trace nut pan 3 "], 1),
            ([cut, " trace nut pan 3"], 1), ([cut, "Trace nut pan 3"], 1), ([cut, "trace Nut pan 3"], 1),
            ([cut, "trace nut at 3"], 1), ([cut, "trace trace pan 3"], 1), ([cut, "trace nut toolong 3"], 1),
            ([cut, "trace nut pan 1_0"], 1), ([cut, "trace nut pan \u0663"], 1), ([cut, "trace nut cut pan 3"], 1),
            ([cut, "trace"], 1), ([cut, "limit"], 1), ([cut, "trace "], 1),
            ([cut, "limit nut cut pan"], 1), ([cut, "limit nut pan 3"], 1), ([cut, "limit nut cut pan 3 3"], 1),
            ([cut, "limit nut cut pan 03"], 1), ([cut, "limit nut cut pan x"], 1), ([cut, "limit nut go pan 3"], 1),
            ([cut, "limit nut Cut pan 3"], 1), ([cut, "limit nut cut pan  3"], 1), ([cut, "limit nut cut pan 3\r"], 1),
            ([cut, "limit nut toolong pan 3"], 1), ([cut, "limits nut cut pan 3"], 1),
            ([cut, "limit nut cut pan 10000000000000000000"], 1),
        ):
            with self.subTest(lines), self.assertRaises(InvalidText) as caught:
                Kitchen.read("\n".join(lines))
            self.assertEqual(caught.exception.at, at)

    def test_lines_of_works_as_in_works(self):
        for text in ("", " ", "cut", "cut at", "cut at pan ", "cut at pan go", "cut at pan\n", "\ncut at pan",
                     "ahead cut wash", "cut at pan\nahead cut", "cut at pan\nwash at pan\nahead  cut wash",
                     "cut at pan\nwash at pan\nahead cut wash\nfry at pan"):
            at = []
            for shape in (Work, Kitchen):
                with self.assertRaises(InvalidText) as caught:
                    shape.read(text)
                at.append(caught.exception.at)
            self.assertEqual(at[0], at[1], text)

    def test_texts_ahead_of_constructors(self):
        for lines, at in ((["cut at pan pan", "cut at pan", "trace nut pan 0", "limit nut fry pan 0", "x"], 4),
                          (["cut at pan", "cut at pan", "ahead cut cut", "trace nut pan 1", "ahead cut cut"], 4)):
            with self.assertRaises(InvalidText) as caught:
                Kitchen.read("\n".join(lines))
            self.assertEqual(caught.exception.at, at)

    def test_errors_of_the_constructors_in_turn(self):
        cut, wash = "cut at pan", "wash at pan"
        for lines, error, word in (
            ([cut, "cut at pan", "wash at pan pan", "trace nut pan 0"], InvalidStep, "places"),
            ([cut, "wash at pan go a pan 1", "fry at a a", "limit nut x pan 0"], InvalidStep, "arrows"),
            ([cut, cut, "trace nut pan 0"], InvalidWork, "steps"),
            ([cut, wash, "ahead cut cut", "trace nut pan 0"], InvalidWork, "ahead"),
            ([cut, wash, "ahead cut wash", "ahead wash cut", "limit nut fry pan 1"], InvalidWork, "ahead"),
            ([cut, wash, "ahead cut fry", "trace nut pan 1"], InvalidWork, "ahead"),
            ([cut, "trace nut pan 0", "limit nut fry pan 1"], InvalidKitchen, "traces"),
            ([cut, "trace nut pan 1", "trace nut pan 2", "limit nut fry pan 1"], InvalidKitchen, "traces"),
            ([cut, "trace nut pan 1", "limit nut fry pan 1"], InvalidKitchen, "limits"),
            ([cut, "limit nut cut pot 1"], InvalidKitchen, "limits"),
            ([cut, "limit nut cut pan 1", "limit nut cut pan 0"], InvalidKitchen, "limits"),
        ):
            with self.subTest(lines), self.assertRaises(error) as caught:
                Kitchen.read("\n".join(lines))
            self.assertEqual(caught.exception.word, word)

    def test_greatest_levels(self):
        kitchen = Kitchen.read("cut at pan\ntrace nut pan 9999999999999999999\nlimit nut cut pan 9999999999999999999")
        self.assertEqual((kitchen.traces[0][2], kitchen.limits[0][3]), (10 ** 19 - 1, 10 ** 19 - 1))

    def test_many_lines(self):
        names = [one + other for one in "abcdef" for other in "ghijkl"]
        lines = [f"{name} at pan" for name in names] + [f"trace {name} pan 1" for name in names[:7]]
        lines = lines + [f"limit {name} {name} pan 1" for name in names[:6]]
        kitchen = Kitchen.read("\n".join(lines))
        self.assertEqual((len(kitchen.work), len(kitchen.traces), len(kitchen.limits)), (36, 7, 6))
        self.assertEqual(str(kitchen), "\n".join(lines))

    def test_read_against_a_pattern(self):
        name = r"(?!(?:at|go|ahead|trace|limit|work)(?![a-z]))[a-z]{1,6}"
        level = r"(?:0|[1-9][0-9]{0,18})"
        forms = [re.compile(form) for form in (
            rf"{name} at {name}(?: {name})*(?: go {name} {name} {level}(?:, {name} {name} {level})*)?",
            rf"ahead {name} {name}", rf"trace {name} {name} {level}", rf"limit {name} {name} {name} {level}")]
        chance = random.Random(8)
        pieces = (*KITCHEN_LINES, *LINES, "trace nut at 1", "trace nut a 01", "limit nut a", "", "work", "ahead a b")
        starts = 0
        for _ in range(3000):
            lines = list(KITCHEN_LINES)
            for _ in range(chance.randint(1, 3)):
                at = chance.randint(0, len(lines))
                lines[at:at + chance.randint(0, 2)] = [chance.choice(pieces)] * chance.randint(0, 1)
            stage, wrong = 0, None
            for at, line in enumerate(lines or [""]):
                fits = [form for form in range(stage, 4) if forms[form].fullmatch(line) and (at > 0 or form == 0)]
                if not fits:
                    wrong = at
                    break
                stage = fits[0]
            try:
                Kitchen.read("\n".join(lines))
                told = None
            except InvalidText as error:
                told = error.at
            except (InvalidStep, InvalidWork, InvalidKitchen):
                told = None
            self.assertEqual(told, wrong, lines)
            starts += wrong is None
        self.assertGreater(starts, 300)


if __name__ == "__main__":
    unittest.main()
