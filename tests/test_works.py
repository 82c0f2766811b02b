"""[6]: works, their texts and their errors."""

import random
import unittest

from examples import LINES, any_values, example, orders, plain
from plateways.errors import InvalidStep, InvalidText, InvalidWork, NoPlace, NoStep
from plateways.steps import Step
from plateways.works import Work


class AttributesTest(unittest.TestCase):

    def test_attributes(self):
        steps = [Step("wash", ["sink", "pan"]), Step("cut", ["board"]), Step("fry", ["pan"])]
        pairs = [("wash", "fry"), ("cut", "fry")]
        work = Work(steps, pairs)
        self.assertEqual(work.steps, tuple(steps))
        self.assertEqual(work.ahead, tuple(pairs))
        self.assertEqual(work.names, ("wash", "cut", "fry"))
        self.assertEqual(work.places, ("board", "pan", "sink"))
        self.assertEqual(len(work), 3)

    def test_without_pairs(self):
        work = Work([Step("cut", ["pan"])])
        self.assertEqual((work.ahead, work.names, work.places, len(work)), ((), ("cut",), ("pan",), 1))

    def test_the_example(self):
        work = example()
        self.assertEqual((len(work), work.places), (5, ("board", "bowl", "nuts", "plate")))
        self.assertEqual(work.names, ("chop", "toss", "wash", "cut", "serve"))
        self.assertEqual(work.ahead, (("chop", "toss"), ("cut", "serve")))
        self.assertEqual((work.is_ahead("chop", "toss"), work.is_ahead("chop", "cut")), (True, False))
        self.assertEqual(str(work.step("wash")), "wash at board go board board 3")
        self.assertEqual(str(work.step("wash").washed("board")), "wash at board")

    def test_a_pair_twice(self):
        work = plain(["a", "b"], [("a", "b"), ("a", "b")])
        self.assertEqual(work.ahead, (("a", "b"), ("a", "b")))
        self.assertEqual(str(work), "a at pan\nb at pan\nahead a b\nahead a b")
        self.assertEqual(Work.read(str(work)), work)
        self.assertFalse(work == plain(["a", "b"], [("a", "b")]))

    def test_beyond_the_limits(self):
        names = [one + other for one in "abcde" for other in "fghijk"]
        pairs = [(names[at], names[to]) for at in range(30) for to in range(at + 1, min(at + 4, 30))]
        work = plain(names, pairs)
        self.assertEqual((len(work), len(work.ahead)), (30, len(pairs)))
        self.assertTrue(work.is_ahead(names[0], names[29]))
        with self.assertRaises(InvalidWork):
            work.fenced([(names[29], names[0])])


class ConstructorErrorsTest(unittest.TestCase):

    def wrong(self, word, steps, ahead=()):
        with self.assertRaises(InvalidWork) as caught:
            Work(steps, ahead)
        self.assertEqual(caught.exception.word, word)

    def test_steps(self):
        cut = Step("cut", ["board"])
        for value in any_values():
            if value.__class__ is list and len(value) == 1 and value[0].__class__ is Step:
                self.assertEqual(Work(value).names, ("cut",))
            else:
                self.wrong("steps", value)
        for value in any_values():
            self.wrong("steps", [cut, value])
        self.wrong("steps", [cut, Step("cut", ["pan"])])
        self.wrong("steps", cut)
        self.wrong("steps", [str(cut)])
        self.wrong("steps", Work([cut]))

    def test_ahead(self):
        steps = [Step("cut", ["board"]), Step("wash", ["board"])]
        for value in any_values():
            if value in ((), [], [("cut", "wash")]):
                self.assertEqual(Work(steps, value).ahead, tuple(value))
            else:
                self.wrong("ahead", steps, value)

    def test_each_pair(self):
        steps = [Step("cut", ["board"]), Step("wash", ["board"])]
        for value in (*any_values(), ("cut", "cut"), ("cut", "fry"), ("fry", "cut"), ["cut", "wash"], ("cut",),
                      ("cut", "wash", "cut"), ("cut", None), (steps[0], steps[1]), ("cut", ["wash"])):
            self.wrong("ahead", steps, [value])
            self.wrong("ahead", steps, (("cut", "wash"), value))

    def test_rings(self):
        steps = [Step(name, ["pan"]) for name in "abcd"]
        self.wrong("ahead", steps, [("a", "b"), ("b", "a")])
        self.wrong("ahead", steps, [("a", "b"), ("b", "c"), ("c", "a")])
        self.wrong("ahead", steps, [("d", "a"), ("c", "d"), ("b", "c"), ("a", "b")])
        self.wrong("ahead", steps, [("a", "b"), ("c", "d"), ("d", "c")])
        self.assertEqual(len(Work(steps, [("a", "b"), ("b", "c"), ("a", "c"), ("d", "c"), ("a", "d")]).ahead), 5)

    def test_the_first_wrong_argument(self):
        self.wrong("steps", [], None)
        self.wrong("steps", None, [("a", "b"), ("b", "a")])
        self.wrong("steps", [Step("a", ["pan"]), Step("a", ["pan"])], [("a", "b")])

    def test_rings_against_all_rows(self):
        chance = random.Random(11)
        rings = 0
        for _ in range(400):
            names = ("a", "b", "c", "d", "e")[:chance.randint(2, 5)]
            pairs = [tuple(chance.sample(names, 2)) for _ in range(chance.randint(0, 6))]
            if orders(names, pairs):
                self.assertEqual(plain(names, pairs).ahead, tuple(pairs))
            else:
                rings += 1
                self.wrong("ahead", [Step(name, ["pan"]) for name in names], pairs)
        self.assertGreater(rings, 50)


class StepTest(unittest.TestCase):

    def test_step(self):
        work = example()
        for at, name in enumerate(work.names):
            self.assertEqual(work.step(name), work.steps[at])

    def test_no_step(self):
        for value in any_values():
            if value.__class__ is str and value == "cut":
                continue
            with self.assertRaises(NoStep) as caught:
                example().step(value)
            self.assertIs(caught.exception.name, value)


class IsAheadTest(unittest.TestCase):

    def test_one_behind_another(self):
        work = plain("abcde", [("c", "d"), ("a", "b"), ("b", "c")])
        for one in "abcde":
            for other in "abcde":
                known = "e" not in (one, other) and one < other
                self.assertIs(work.is_ahead(one, other), known)

    def test_against_all_orders(self):
        chance = random.Random(3)
        for _ in range(200):
            names = ("a", "b", "c", "d", "e")
            rank = list(names)
            chance.shuffle(rank)
            pairs = [tuple(sorted(chance.sample(names, 2), key=rank.index)) for _ in range(chance.randint(0, 6))]
            work, rows = plain(names, pairs), orders(names, pairs)
            for one in names:
                for other in names:
                    always = one != other and all(row.index(one) < row.index(other) for row in rows)
                    self.assertIs(work.is_ahead(one, other), always)

    def test_no_step_is_ahead_of_itself(self):
        for name in example().names:
            self.assertIs(example().is_ahead(name, name), False)

    def test_no_step(self):
        for value in any_values():
            if value.__class__ is str and value == "cut":
                continue
            for call in (lambda: example().is_ahead(value, "cut"), lambda: example().is_ahead("cut", value),
                         lambda: example().is_ahead(value, None), lambda: example().is_ahead(value, "fry")):
                with self.assertRaises(NoStep) as caught:
                    call()
                self.assertIs(caught.exception.name, value)


class FencedTest(unittest.TestCase):

    def test_pairs_stand_behind(self):
        work = example().fenced([("chop", "wash"), ("wash", "cut")])
        self.assertEqual(work.ahead, (("chop", "toss"), ("cut", "serve"), ("chop", "wash"), ("wash", "cut")))
        self.assertEqual(work.steps, example().steps)
        self.assertTrue(work.is_ahead("chop", "serve"))
        self.assertEqual(work.fenced([("chop", "wash")]).ahead, (*work.ahead, ("chop", "wash")))
        self.assertEqual(work.fenced(()), work)

    def test_errors(self):
        work = plain(["cut", "wash", "fry"], [("wash", "fry")])
        for value in any_values():
            if value in ((), [], [("cut", "wash")]):
                self.assertEqual(work.fenced(value).ahead, (("wash", "fry"), *value))
                continue
            with self.assertRaises(InvalidWork) as caught:
                work.fenced(value)
            self.assertEqual(caught.exception.word, "ahead")
        for value in ([("fry", "wash")], [("fry", "cut"), ("cut", "wash")], [("cut", "cut")], [("cut", "sink")],
                      [["cut", "wash"]], ("cut", "wash"), work):
            with self.assertRaises(InvalidWork) as caught:
                work.fenced(value)
            self.assertEqual(caught.exception.word, "ahead")


class WashedTest(unittest.TestCase):

    def test_washed(self):
        work = example().washed([("cut", "board"), ("chop", "nuts"), ("chop", "board")])
        self.assertEqual(str(work.step("cut")), "cut at board plate go plate plate 0")
        self.assertEqual(str(work.step("chop")), "chop at board nuts")
        self.assertEqual(work.step("toss"), example().step("toss"))
        self.assertEqual((work.names, work.ahead), (example().names, example().ahead))

    def test_twice_and_nothing(self):
        self.assertEqual(example().washed([]), example())
        once = example().washed([("cut", "board")])
        self.assertEqual(example().washed([("cut", "board"), ("cut", "board")]), once)
        self.assertEqual(once.washed((("cut", "board"),)), once)

    def test_no_step(self):
        for pairs, name in (([("fry", "board")], "fry"), ([("cut", "board"), ("fry", "pan")], "fry"),
                            ([("fry", "pan"), ("cut", "pan")], "fry"), ([(None, None)], None),
                            ([("fry", "board"), ("sift", "board")], "fry")):
            with self.assertRaises(NoStep) as caught:
                example().washed(pairs)
            self.assertEqual(caught.exception.name, name)

    def test_no_place(self):
        for pairs, name in (([("cut", "bowl")], "bowl"), ([("cut", "board"), ("cut", "nuts")], "nuts"),
                            ([("cut", "pan"), ("fry", "board")], "pan"), ([("serve", None)], None)):
            with self.assertRaises(NoPlace) as caught:
                example().washed(pairs)
            self.assertEqual(caught.exception.name, name)


class TextTest(unittest.TestCase):

    def test_text(self):
        work = example()
        self.assertEqual(str(work).split("\n")[3], "cut at board plate go board board 0, board plate 1, plate plate 0")
        self.assertEqual(str(work).split("\n")[5:], ["ahead chop toss", "ahead cut serve"])
        self.assertEqual(str(plain(["b", "a"], [("b", "a")])), "b at pan\na at pan\nahead b a")
        self.assertEqual(str(plain(["b"])), "b at pan")
        self.assertEqual(Work.read(str(work)), work)

    def test_equal_if_texts_are(self):
        work = plain(["a", "b", "c"], [("a", "b"), ("a", "c")])
        self.assertTrue(work == plain(("a", "b", "c"), (("a", "b"), ("a", "c"))))
        self.assertFalse(work != plain(("a", "b", "c"), (("a", "b"), ("a", "c"))))
        for other in (plain(["b", "a", "c"], work.ahead), plain(["a", "b", "c"], [("a", "c"), ("a", "b")]),
                      plain(["a", "b", "c"], [("a", "b")]), plain(["a", "b", "c", "d"], work.ahead),
                      Work([Step("a", ["pot"]), *work.steps[1:]], work.ahead)):
            self.assertFalse(work == other)
            self.assertTrue(work != other)

    def test_read(self):
        work = Work.read("fry at pan dish go pan dish 2\nmix at bowl\nahead mix fry")
        self.assertEqual(work, Work([Step("fry", ["dish", "pan"], [("pan", "dish", 2)]), Step("mix", ["bowl"])],
                                    [("mix", "fry")]))

    def test_lines_that_cannot_stand_there(self):
        cut, wash, pair = "cut at pan", "wash at pan", "ahead cut wash"
        for lines, at in (
            ([""], 0), ([pair], 0), ([pair, cut, wash], 0), ([cut, ""], 1), (["", cut], 0), ([cut, "", wash], 1),
            ([cut, wash, pair, cut], 3), ([cut, wash, pair, pair, wash, pair], 4), ([cut, pair, wash], 2),
            ([cut, "Wash at pan"], 1), ([cut, wash, "ahead cut"], 2), ([cut, wash, "ahead cut wash pan"], 2),
            ([cut, wash, "ahead  cut wash"], 2), ([cut, wash, "ahead cut wash "], 2), ([cut, wash, "ahead cut Wash"], 2),
            ([cut, wash, "ahead at wash"], 2), ([cut, wash, "ahead cut go"], 2), ([cut, wash, "behind cut wash"], 2),
            ([cut, wash, pair, ""], 3), ([cut, "work"], 1), (["work", cut], 0), ([cut, "trace nut pan 3"], 1),
            ([cut, wash, pair, "limit nut cut pan 3"], 3), ([cut + "\r", wash], 0), ([cut, "cut at pan go"], 1),
            ([cut, "ahead cut toolong"], 1), ([cut, "ahead"], 1), ([cut, "ahead "], 1),
        ):
            with self.subTest(lines), self.assertRaises(InvalidText) as caught:
                Work.read("\n".join(lines))
            self.assertEqual(caught.exception.at, at)

    def test_texts_ahead_of_constructors(self):
        for text, at in (("cut at pan pan\nwash", 1), ("cut at pan\ncut at pan\nahead cut", 2),
                         ("cut at pan\nahead cut cut\nahead cut fry\ncut at pan", 3),
                         ("cut at pan go a b 0\nahead cut cut\n", 2)):
            with self.subTest(text), self.assertRaises(InvalidText) as caught:
                Work.read(text)
            self.assertEqual(caught.exception.at, at)

    def test_errors_of_steps_ahead_of_the_work(self):
        for text, word in (("cut at pan\ncut at pot pot", "places"), ("cut at pan\nfry at pan go a b 0\nfry at b b", "arrows"),
                           ("cut at pan\nwash at pan pan\nahead cut cut", "places")):
            with self.subTest(text), self.assertRaises(InvalidStep) as caught:
                Work.read(text)
            self.assertEqual(caught.exception.word, word)

    def test_errors_of_the_work(self):
        for text, word in (("cut at pan\ncut at pot", "steps"), ("cut at pan\ncut at pot\nahead cut fry", "steps"),
                           ("cut at pan\nahead cut cut", "ahead"), ("cut at pan\nahead cut fry", "ahead"),
                           ("a at pan\nb at pan\nahead a b\nahead b a", "ahead")):
            with self.subTest(text), self.assertRaises(InvalidWork) as caught:
                Work.read(text)
            self.assertEqual(caught.exception.word, word)

    def test_the_lines_of_the_example(self):
        self.assertEqual(Work.read("\n".join(LINES)).ahead, (("chop", "toss"), ("cut", "serve")))


if __name__ == "__main__":
    unittest.main()
