"""[1], [2], [3] for the modules about all orders: what is passed, returned and changed later; [4]: NoLimit and its like."""

import unittest

from examples import WAY, fenced_example, kitchen_example, some_kitchens, thick_kitchens
from plateways.clean import clean_next, clean_order, many_clean, surely
from plateways.errors import InvalidRow, InvalidWay, NoLimit, NoPlace, NoStep
from plateways.fencing import is_fenced, least_fences
from plateways.kitchens import Kitchen
from plateways.meeting import meeting, meets
from plateways.papers import paper, paper_holds
from plateways.reaching import harmful_ways, harms, worst, worst_way
from plateways.together import first_row, order_of_all, together
from plateways.washing import least_washings
from plateways.works import Work

SEVERAL = ((WAY, None), (("bowl", ("toss", "bowl")), None))
FENCES = (("chop", "wash"), ("wash", "cut"))


def calm_kitchen():
    return kitchen_example().with_work(fenced_example())


def answers(kitchen, calm):
    """What many calls return, one behind another."""
    work = kitchen.work
    return [
        together(work, SEVERAL), order_of_all(work, SEVERAL), first_row(work, SEVERAL), worst(kitchen, "nut", "serve", "plate"),
        worst_way(kitchen, "nut", "serve", "plate"), worst_way(kitchen, "egg", "serve", "plate"), harms(kitchen), harms(calm),
        harmful_ways(kitchen, 0), meets(kitchen, "nut", "egg"), meeting(kitchen, "nut", "egg"), paper(kitchen, 0), paper(calm, 0),
        paper_holds(calm, 0, paper(calm, 0)), least_washings(kitchen, ["board", "nuts"]), is_fenced(kitchen, FENCES),
        least_fences(kitchen), many_clean(kitchen), clean_order(kitchen), clean_next(kitchen, ["chop"]), surely(kitchen),
        many_clean(calm), order_of_all(calm.work, SEVERAL),
    ]


def are_tuples(value):
    """Whether there is no list in a value."""
    return value.__class__ is not list and (value.__class__ is not tuple or all(map(are_tuples, value)))


class PassingTest(unittest.TestCase):

    def test_by_parameter_names(self):
        kitchen, calm = kitchen_example(), calm_kitchen()
        work = kitchen.work
        for call in (together, order_of_all, first_row):
            self.assertEqual(call(several=SEVERAL, work=work), call(work, SEVERAL))
        for call in (worst, worst_way):
            self.assertEqual(call(place="plate", step="serve", trace="nut", kitchen=kitchen), call(kitchen, "nut", "serve", "plate"))
        self.assertEqual(harmful_ways(at=0, kitchen=kitchen), harmful_ways(kitchen, 0))
        for call in (meets, meeting):
            self.assertEqual(call(other="egg", one="nut", kitchen=kitchen), call(kitchen, "nut", "egg"))
        self.assertEqual(paper(at=0, kitchen=calm), paper(calm, 0))
        self.assertIs(paper_holds(value=paper(calm, 0), at=0, kitchen=calm), True)
        self.assertEqual(least_washings(places=["board"], kitchen=kitchen), least_washings(kitchen, ["board"]))
        self.assertIs(is_fenced(pairs=FENCES, kitchen=kitchen), True)
        self.assertEqual(clean_next(beginning=["chop"], kitchen=kitchen), ("toss", "wash"))
        for call in (harms, least_fences, many_clean, clean_order, surely):
            self.assertEqual(call(kitchen=kitchen), call(kitchen))

    def test_wrong_numbers_of_arguments(self):
        kitchen = kitchen_example()
        for call in (lambda: together(kitchen.work), lambda: worst(kitchen, "nut", "serve"), lambda: harms(kitchen, 0),
                     lambda: harmful_ways(kitchen), lambda: paper(kitchen), lambda: paper_holds(kitchen, 0), lambda: meets(kitchen, "nut"),
                     lambda: least_washings(kitchen), lambda: is_fenced(kitchen), lambda: clean_next(kitchen), lambda: surely()):
            with self.assertRaises(TypeError):
                call()

    def test_lists_and_tuples(self):
        kitchen = kitchen_example()
        for call in (together, order_of_all, first_row):
            self.assertEqual(call(kitchen.work, list(SEVERAL)), call(kitchen.work, SEVERAL))
        for places in (["board", "bowl"], [], ["board", "board", "nuts"]):
            self.assertEqual(least_washings(kitchen, places), least_washings(kitchen, tuple(places)))
        for pairs in (FENCES, (), FENCES[:1]):
            self.assertIs(is_fenced(kitchen, list(pairs)), is_fenced(kitchen, pairs))
        for row in ((), ("chop",), ("chop", "cut", "serve"), ("wash", "chop", "toss", "cut")):
            self.assertEqual(clean_next(kitchen, list(row)), clean_next(kitchen, row))

    def test_arguments_stay_and_may_be_changed_later(self):
        kitchen = kitchen_example()
        several, places, pairs, row = list(SEVERAL), ["board", "nuts"], list(FENCES), ["chop"]
        first = [together(kitchen.work, several), order_of_all(kitchen.work, several), first_row(kitchen.work, several),
                 least_washings(kitchen, places), is_fenced(kitchen, pairs), clean_next(kitchen, row)]
        self.assertEqual((several, places, pairs, row), (list(SEVERAL), ["board", "nuts"], list(FENCES), ["chop"]))
        for thing in (several, places, pairs):
            thing.reverse()
            thing.pop()
        row.append("toss")
        least_washings(kitchen, places)
        clean_next(kitchen, row)
        self.assertEqual([together(kitchen.work, SEVERAL), order_of_all(kitchen.work, SEVERAL), first_row(kitchen.work, SEVERAL),
                          least_washings(kitchen, ["board", "nuts"]), is_fenced(kitchen, FENCES), clean_next(kitchen, ("chop",))], first)
        self.assertEqual(str(kitchen), str(kitchen_example()))

    def test_sequences_are_tuples(self):
        self.assertTrue(are_tuples(tuple(answers(kitchen_example(), calm_kitchen()))))
        for kitchen in [*some_kitchens(970, 20, 4), *thick_kitchens(970, 20, 4)]:
            for value in (harms(kitchen), least_washings(kitchen, ["pan", "pot"]), least_fences(kitchen), clean_order(kitchen),
                          surely(kitchen), meeting(kitchen, "nut", "egg"), clean_next(kitchen, []), *answers_of_limits(kitchen)):
                self.assertTrue(value is None or value.__class__ is tuple)
                self.assertTrue(are_tuples(value))

    def test_answers_are_bools_and_integers(self):
        kitchen = kitchen_example()
        for value in (together(kitchen.work, SEVERAL), meets(kitchen, "nut", "egg"), meets(kitchen, "nut", "soy"), is_fenced(kitchen, FENCES),
                      is_fenced(kitchen, ()), paper_holds(kitchen, 0, ()), paper_holds(kitchen, 0, None)):
            self.assertIs(value.__class__, bool)
        for value in (worst(kitchen, "nut", "serve", "plate"), worst(kitchen, "soy", "serve", "plate"), many_clean(kitchen), *harms(kitchen)):
            self.assertIs(value.__class__, int)

    def test_the_same_call_returns_the_same(self):
        kitchen, calm = kitchen_example(), calm_kitchen()
        first = answers(kitchen, calm)
        for error, call in ((InvalidWay, lambda: together(kitchen.work, [(WAY, "cut")])), (NoStep, lambda: worst(kitchen, "nut", "fry", "pan")),
                            (NoPlace, lambda: worst_way(kitchen, "nut", "cut", "pan")), (NoLimit, lambda: harmful_ways(kitchen, 1)),
                            (NoLimit, lambda: paper(calm, -1)), (InvalidRow, lambda: clean_next(kitchen, ["serve"]))):
            with self.assertRaises(error):
                call()
        is_fenced(kitchen, [("cut", "chop")])
        least_washings(kitchen, ["plate"])
        self.assertEqual(answers(kitchen, calm), first)
        self.assertEqual(answers(kitchen_example(), calm_kitchen())[::-1], first[::-1])
        self.assertEqual((str(kitchen), str(calm)), (str(kitchen_example()), str(calm_kitchen())))

    def test_great_levels(self):
        most = 10 ** 18
        work = Work.read(f"a at p q go p q {most}, p p 0\nb at q go q q {most - 1}\nc at p q go q q 0")
        kitchen = Kitchen(work, [("nut", "p", most), ("nut", "q", most)], [("nut", "c", "q", 1), ("nut", "b", "q", most), ("nut", "c", "q", most)])
        self.assertEqual(worst(kitchen, "nut", "c", "q"), most)
        self.assertEqual(harms(kitchen), (0, 1, 2))
        fenced = kitchen.with_work(work.fenced([("b", "c")]))
        self.assertEqual((worst(fenced, "nut", "c", "q"), harms(fenced)), (1, (0, 1)))
        self.assertEqual(worst_way(fenced, "nut", "c", "q"), ("q", ("b", "q")))
        self.assertEqual((many_clean(kitchen), surely(kitchen), surely(fenced)), (2, (), ()))

    def test_twice_as_many_limits_and_seven_traces(self):
        lines = ["a at p q go p q 1, p p 0, q q 0", "b at q r go q r 1, q q 0, r r 0", "c at r s go r s 1, s s 2", "w at p s go p p 3"]
        lines = lines + ["trace nut p 5", "trace nut q 2", "trace nut s 1", "trace egg p 4", "trace egg r 4", "trace soy q 5", "trace soy s 3"]
        limits = ["nut c r 3", "egg c r 3", "soy w s 3", "nut b q 4", "egg b q 4", "soy a q 9"]
        kitchen = Kitchen.read("\n".join([*lines, *[f"limit {limit}" for limit in limits]]))
        self.assertEqual(harms(kitchen), (0, 1, 3))
        self.assertEqual([len(harmful_ways(kitchen, at)) for at in range(6)], [1, 2, 0, 1, 0, 0])
        for at in range(6):
            self.assertIs(paper(kitchen, at) is None, at in harms(kitchen))
            if at not in harms(kitchen):
                self.assertTrue(paper_holds(kitchen, at, paper(kitchen, at)))
        self.assertEqual((many_clean(kitchen), surely(kitchen)), (0, (1,)))
        self.assertTrue(all(meets(kitchen, one, other) for one, other in (("nut", "egg"), ("nut", "soy"), ("soy", "egg"))))


def answers_of_limits(kitchen):
    """What is returned for each limit."""
    found = []
    for at, (trace, step, place, _) in enumerate(kitchen.limits):
        found.extend([harmful_ways(kitchen, at), paper(kitchen, at), worst_way(kitchen, trace, step, place)])
    return found


class ErrorsTest(unittest.TestCase):

    def test_they_are_caught_by_their_bases(self):
        kitchen = kitchen_example()
        for base, call in ((IndexError, lambda: harmful_ways(kitchen, 1)), (IndexError, lambda: paper(kitchen, 1)),
                           (IndexError, lambda: paper_holds(kitchen, 1, ())), (KeyError, lambda: worst(kitchen, "nut", "fry", "plate")),
                           (KeyError, lambda: worst(kitchen, "nut", "cut", "bowl")), (ValueError, lambda: clean_next(kitchen, None)),
                           (ValueError, lambda: first_row(kitchen.work, [(None, None)]))):
            with self.assertRaises(base):
                call()

    def test_an_error_comes_ahead_of_what_is_found(self):
        calm = calm_kitchen()
        with self.assertRaises(NoStep):
            worst(calm, "soy", "plate", "serve")
        with self.assertRaises(NoLimit):
            paper_holds(calm, 1, paper(calm, 0))


if __name__ == "__main__":
    unittest.main()
