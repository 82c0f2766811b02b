"""[32], [33]: desks, their commands and what they say."""

import unittest

from examples import KITCHEN_LINES, any_values, kitchen_example, nested, some_kitchens, thick_kitchens
from plateways.desk import Desk
from plateways.errors import InvalidCommand, InvalidKitchen, InvalidStep, InvalidText, InvalidWork, NoPlace, NoStep, Refused
from plateways.kitchens import Kitchen
from plateways.live import Live
from plateways.reaching import harms, worst

BEGIN = "kitchen " + " ; ".join(KITCHEN_LINES)
OTHERS = ("do chop", "next", "harms", "worst nut serve plate", "undo")


def begun(*commands):
    desk = Desk()
    for command in (BEGIN, *commands):
        desk.say(command)
    return desk


def state(desk):
    live = desk.live
    return None if live is None else (str(live.kitchen), live.done, live.levels, live.reached, live.clean_next, len(live))


class CommandsTest(unittest.TestCase):

    def test_the_example(self):
        desk = Desk()
        told = [desk.say(command) for command in (BEGIN, "do chop", "next", "do cut", "next", "do serve", "undo")]
        self.assertEqual(told, ["5", "fine", "toss wash", "fine", "none", "0", "undone"])

    def test_at_first_there_is_no_live_kitchen(self):
        desk = Desk()
        self.assertIsNone(desk.live)
        desk.say(BEGIN)
        self.assertIs(desk.live.__class__, Live)
        self.assertEqual((desk.live.kitchen, desk.live.done), (kitchen_example(), ()))

    def test_kitchen(self):
        desk = Desk()
        self.assertEqual(desk.say("kitchen a at p"), "1")
        self.assertEqual(str(desk.live.kitchen), "a at p")
        self.assertEqual(desk.say("kitchen a at p ; b at q go q q 0 ; c at p ; ahead a b ; trace nut q 3 ; limit nut b q 2"), "3")
        self.assertEqual(str(desk.live.kitchen), "a at p\nb at q go q q 0\nc at p\nahead a b\ntrace nut q 3\nlimit nut b q 2")
        desk.say("do a")
        first = desk.live
        self.assertEqual(desk.say("kitchen a at p"), "1")
        self.assertIsNot(desk.live, first)
        self.assertEqual((desk.live.done, first.done), ((), ("a",)))
        self.assertEqual(desk.say("undo"), "nothing")

    def test_do(self):
        desk = begun()
        self.assertEqual([desk.say(f"do {name}") for name in ("wash", "chop", "cut", "serve", "toss")], ["fine", "fine", "fine", "0", "fine"])
        desk.say("kitchen a at p go p p 0 ; trace nut p 3 ; limit nut a p 1 ; limit egg a p 1 ; limit nut a p 3")
        self.assertEqual(desk.say("do a"), "0 2")

    def test_next(self):
        desk = begun()
        self.assertEqual(desk.say("next"), "chop wash cut")
        self.assertEqual((desk.say("do chop"), desk.say("next")), ("fine", "toss wash"))
        desk.say("do cut")
        self.assertEqual(desk.say("next"), "none")
        desk.say("do serve")
        self.assertEqual(desk.say("next"), "toss wash")
        desk.say("do toss")
        self.assertEqual((desk.say("next"), desk.say("do wash"), desk.say("next")), ("wash", "fine", "none"))

    def test_harms_are_from_the_first(self):
        desk = begun()
        self.assertEqual(desk.say("harms"), "0")
        for name in ("wash", "cut", "serve", "chop", "toss"):
            self.assertEqual((desk.say(f"do {name}"), desk.say("harms")), ("fine", "0"))
        self.assertEqual(desk.live.reached, ())
        desk.say("kitchen a at p")
        self.assertEqual(desk.say("harms"), "none")
        desk.say("kitchen a at p go p p 0 ; b at p ; trace nut p 3 ; limit nut a p 1 ; limit nut a p 4 ; limit nut a p 3")
        self.assertEqual(desk.say("harms"), "0 2")

    def test_worst(self):
        desk = begun()
        for names in ((), ("wash", "cut"), ("serve", "chop", "toss")):
            desk.live.several(names)
            # The worst level is that of all orders, whatever was done.
            self.assertEqual(desk.say("worst nut serve plate"), "4")
            self.assertEqual(desk.say("worst egg toss bowl"), "2")
            self.assertEqual(desk.say("worst soy toss bowl"), "0")
            self.assertEqual(desk.say("worst egg serve plate"), "0")

    def test_undo(self):
        desk = begun("do chop", "do wash")
        self.assertEqual([desk.say("undo") for _ in range(4)], ["undone", "undone", "nothing", "nothing"])
        self.assertEqual(desk.live.done, ())

    def test_the_live_kitchen_can_be_told_more_by_itself(self):
        desk = begun("do chop")
        self.assertEqual(desk.live.several(["cut", "serve"]), (0,))
        self.assertEqual((desk.say("next"), desk.say("undo"), desk.live.done), ("toss wash", "undone", ("chop",)))

    def test_against_live_kitchens(self):
        for kitchen in [*some_kitchens(320, 25, 4), *thick_kitchens(320, 25)]:
            desk, live = Desk(), Live(kitchen)
            text = str(kitchen).replace("\n", " ; ")
            self.assertEqual(desk.say(f"kitchen {text}"), str(len(kitchen.work)))
            self.assertEqual(desk.live.kitchen, kitchen)
            told = " ".join(map(str, harms(kitchen))) or "none"
            while len(live.done) < len(kitchen.work):
                self.assertEqual((desk.say("harms"), desk.say("next")), (told, " ".join(live.clean_next) or "none"))
                step = kitchen.work.step([name for name in kitchen.work.names[::-1] if name not in live.done and all(
                    one in live.done for one, other in kitchen.work.ahead if other == name)][0])
                for trace in ("nut", "egg"):
                    self.assertEqual(desk.say(f"worst {trace} {step.name} {step.places[0]}"), str(worst(kitchen, trace, step.name, step.places[0])))
                self.assertEqual(desk.say(f"do {step.name}"), " ".join(map(str, live.do(step.name))) or "fine")

    def test_kinds(self):
        desk = Desk()
        for command in (BEGIN, *OTHERS):
            self.assertIs(desk.say(command=command).__class__, str)


class TextTest(unittest.TestCase):

    def test_semicolons_are_replaced_from_left_to_right(self):
        for text, at in (("a at p ; ; b at q", 1), ("; a at p", 0), ("a at p ;", 0), ("a at p ; b at q ;", 1), ("a at p; b at q", 0),
                         ("a at p ;b at q", 0), ("; ; a at p", 0), ("a at p ; ; ; b at q", 1), (";", 0), ("x", 0), ("a at p ; trace nut p", 1),
                         ("a at p ; kitchen", 1), ("ahead a b", 0)):
            desk = begun("do chop")
            first = state(desk)
            with self.assertRaises(InvalidText) as caught:
                desk.say(f"kitchen {text}")
            self.assertEqual(caught.exception.at, at, text)
            self.assertEqual(state(desk), first)

    def test_errors_of_read(self):
        for text, error, word in (("a at p p", InvalidStep, "places"), ("a at p go q p 0", InvalidStep, "arrows"), ("a at p ; a at p", InvalidWork, "steps"),
                                  ("a at p ; ahead a b", InvalidWork, "ahead"), ("a at p ; trace nut p 0", InvalidKitchen, "traces"),
                                  ("a at p ; limit nut b p 1", InvalidKitchen, "limits")):
            for desk in (Desk(), begun("do chop", "do wash")):
                first, live = state(desk), desk.live
                with self.assertRaises(error) as caught:
                    desk.say(f"kitchen {text}")
                self.assertEqual(caught.exception.word, word)
                self.assertIs(desk.live, live)
                self.assertEqual(state(desk), first)

    def test_a_kitchen_of_many_steps(self):
        steps = [f"s{one}{other} at p{one} go p{one} p{one} {len(one)}" for one in "abcdef" for other in "abcdef"]
        self.assertEqual(Desk().say("kitchen " + " ; ".join(steps)), "36")


class ErrorsTest(unittest.TestCase):

    def invalid(self, command, *desks):
        for desk in desks or (Desk(), begun(), begun("do chop", "do cut")):
            first, live = state(desk), desk.live
            with self.assertRaises(InvalidCommand):
                desk.say(command)
            self.assertIs(desk.live, live)
            self.assertEqual(state(desk), first, command)

    def test_any_values(self):
        for value in (*any_values(), nested(8), [BEGIN], (BEGIN,), {}, Kitchen.read("a at p"), Live(kitchen_example()), Desk()):
            self.invalid(value)

    def test_empty_words_and_newlines(self):
        for command in ("", " ", "\n", " next", "next ", "do  chop", "do chop ", " do chop", "do\nchop", "do chop\n", "next\n", "\nnext",
                        "worst nut  serve plate", "kitchen ", "kitchen  a at p", " kitchen a at p", "kitchen a at p ", "kitchen a at  p",
                        "kitchen a at p\nb at q", "kitchen a at p ; b at q\n", "kitchen a at p ;  b at q", "kitchen\na at p", "kitchen \n"):
            self.invalid(command)

    def test_words_that_are_too_few_or_too_many(self):
        for command in ("kitchen", "do", "do chop wash", "next chop", "next next", "harms 0", "harms nut", "worst", "worst nut", "worst nut serve",
                        "worst nut serve plate board", "undo 1", "undo undo", "undo chop"):
            self.invalid(command)

    def test_other_words(self):
        for command in ("several chop", "add", "chop", "Do chop", "NEXT", "kitchens a at p", "none", "fine", "reached", "levels", "within", "read", ";",
                        "redo", "do, chop", "next;", "undo ; undo", "do chop ; next"):
            self.invalid(command)

    def test_words_that_are_no_names(self):
        for word in ("Chop", "toolong", "at", "go", "ahead", "trace", "limit", "work", "ch0p", "0", "chop,", "caf\u00e9", "chop\t", "\tchop", ";", "-", "chop\r"):
            self.invalid(f"do {word}")
            self.invalid(f"worst {word} serve plate")
            self.invalid(f"worst nut {word} plate")
            self.invalid(f"worst nut serve {word}")

    def test_other_separators(self):
        for command in ("do\tchop", "do\u00a0chop", "next\r", "kitchen\ta at p", "worst\tnut serve plate"):
            self.invalid(command)
        # What is in the text behind the first word is for the kitchen to read.
        with self.assertRaises(InvalidText):
            Desk().say("kitchen a\tat p")

    def test_no_live_kitchen(self):
        for command in (*OTHERS, "do fry", "worst nut fry plate"):
            self.invalid(command, Desk())
        desk = Desk()
        with self.assertRaises(InvalidText):
            desk.say("kitchen nothing")
        for command in OTHERS:
            self.invalid(command, desk)
        desk.say(BEGIN)
        for command in OTHERS:
            desk.say(command)

    def test_errors_of_do(self):
        for desk, name, at in ((begun(), "serve", 0), (begun(), "fry", 0), (begun(), "board", 0), (begun("do chop"), "chop", 1),
                               (begun("do chop", "do wash"), "serve", 2), (begun("do wash"), "kitchn", 1), (begun("do wash", "undo"), "toss", 0)):
            first = state(desk)
            with self.assertRaises(Refused) as caught:
                desk.say(f"do {name}")
            self.assertEqual(caught.exception.at, at)
            self.assertEqual(state(desk), first)

    def test_errors_of_worst(self):
        desk = begun("do chop")
        first = state(desk)
        for command, error, name in (("worst nut fry plate", NoStep, "fry"), ("worst nut fry fry", NoStep, "fry"), ("worst nut board plate", NoStep, "board"),
                                     ("worst nut serve board", NoPlace, "board"), ("worst soy serve moon", NoPlace, "moon")):
            with self.assertRaises(error) as caught:
                desk.say(command)
            self.assertEqual(caught.exception.name, name)
            self.assertEqual(state(desk), first)

    def test_it_is_a_value_error(self):
        with self.assertRaises(ValueError):
            Desk().say("next")


class SideBySideTest(unittest.TestCase):

    def test_two_desks(self):
        one, other = begun("do chop"), begun()
        first = state(one)
        other.say("do wash")
        other.say("do cut")
        self.assertEqual(state(one), first)
        other.say("kitchen a at p")
        one.say("undo")
        self.assertEqual((one.live.done, str(other.live.kitchen)), ((), "a at p"))

    def test_the_same_question_again(self):
        desk = begun("do chop")
        told = [desk.say(command) for command in ("next", "harms", "worst nut serve plate")]
        self.assertEqual([desk.say(command) for command in ("next", "harms", "worst nut serve plate")], told)

    def test_not_iterable(self):
        for call in (iter, list, len, lambda value: "chop" in value, lambda value: value[0]):
            with self.assertRaises(TypeError):
                call(begun())


if __name__ == "__main__":
    unittest.main()
