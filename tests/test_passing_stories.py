"""[1], [2], [3] for stories, recipes, live kitchens and desks: what is passed, returned and changed later; and any two of a kind."""

import unittest

from examples import book_example, kitchen_example, some_books, strict_book, thin_book
from plateways.books import Book
from plateways.desk import Desk
from plateways.errors import InvalidStory, NoLimit, NoPlace, NoStep
from plateways.live import Live
from plateways.recipes import book_paper, book_paper_holds, ever, story_of, worst_ever
from plateways.steps import Step
from plateways.stories import story_levels, story_reached

STORY = ((0, "wash"), (1, "chop"), (0, "cut"), (0, "serve"))


def answers(book):
    """What many calls return, one behind another."""
    found = [story_levels(book, STORY), story_reached(book, STORY), ever(book), worst_ever(book, "nut", "serve", "plate"),
             worst_ever(book, "egg", "cut", "board"), story_of(book, "nut", "serve", "plate"), story_of(book, "egg", "serve", "plate")]
    return [*found, book_paper(book, 0), book_paper_holds(book, 0, book_paper(book, 0)), book_paper_holds(book, 0, (("plate", (), 3),))]


def are_tuples(value):
    """Whether there is no list in a value."""
    return value.__class__ is not list and (value.__class__ is not tuple or all(map(are_tuples, value)))


class PassingTest(unittest.TestCase):

    def test_by_parameter_names(self):
        book, thin = book_example(), thin_book()
        for call in (story_levels, story_reached):
            self.assertEqual(call(story=STORY, book=book), call(book, STORY))
        for call in (worst_ever, story_of):
            self.assertEqual(call(place="plate", step="serve", trace="nut", book=book), call(book, "nut", "serve", "plate"))
            self.assertEqual(call(book, "nut", place="plate", step="serve"), call(book, "nut", "serve", "plate"))
        self.assertEqual(ever(book=book), (0,))
        self.assertEqual(book_paper(at=0, book=thin), book_paper(thin, 0))
        self.assertIs(book_paper_holds(value=book_paper(thin, 0), at=0, book=thin), True)
        live = Live(kitchen=kitchen_example())
        self.assertEqual((live.do(name="chop"), live.several(names=["cut", "serve"])), ((), (0,)))
        live.add(step=Step("fry", ["pan"]), after=["cut"])
        live.add(Step("boil", ["pan"]), after=())
        live.add(after=["fry"], step=Step("bake", ["pan"]))
        self.assertEqual(live.kitchen.work.ahead[2:], (("cut", "fry"), ("fry", "bake")))
        self.assertEqual(live.within(deed=len), 5)
        desk = Desk()
        self.assertEqual(desk.say(command="kitchen a at p"), "1")

    def test_wrong_numbers_of_arguments(self):
        book, live = book_example(), Live(kitchen_example())
        for call in (lambda: story_levels(book), lambda: worst_ever(book, "nut", "serve"), lambda: ever(book, 0), lambda: book_paper(book),
                     lambda: book_paper_holds(book, 0), lambda: Live(), lambda: Live(live.kitchen, ()), lambda: live.do(), lambda: live.undo(1),
                     lambda: live.several("chop", "cut"), lambda: live.add(), lambda: live.within(), lambda: Desk("kitchen"), lambda: Desk().say()):
            with self.assertRaises(TypeError):
                call()

    def test_lists_and_tuples(self):
        book = book_example()
        for call in (story_levels, story_reached):
            self.assertEqual(call(book, list(STORY)), call(book, STORY))
        for several in (list, tuple):
            live = Live(kitchen_example())
            live.several(several(["chop", "cut"]))
            live.add(Step("fry", ["pan"]), several(["chop"]))
            self.assertEqual((live.done, live.kitchen.work.ahead[-1]), (("chop", "cut"), ("chop", "fry")))

    def test_arguments_stay_and_may_be_changed_later(self):
        book, story = book_example(), list(STORY)
        told = (story_levels(book, story), story_reached(book, story))
        self.assertEqual((story, str(book)), (list(STORY), str(book_example())))
        story.pop()
        self.assertEqual((story_levels(book, STORY), story_reached(book, STORY)), told)
        answers(book)
        self.assertEqual(str(book), str(book_example()))

    def test_what_was_returned_may_be_passed_on(self):
        for book in some_books(330, 40, 3, 4):
            for at, (trace, step, place, _) in enumerate(book.limits):
                story, paper = story_of(book, trace, step, place), book_paper(book, at)
                if story is not None:
                    self.assertEqual(story_levels(book, list(story)), story_levels(book, story))
                    self.assertEqual(story_levels(Book.read(str(book)), story[:-1]), story_levels(book, story[:-1]))
                if paper is not None:
                    self.assertIs(book_paper_holds(Book.read(str(book)), at, paper), True)

    def test_sequences_are_tuples(self):
        self.assertTrue(are_tuples(tuple(answers(book_example()))))
        self.assertTrue(are_tuples(tuple(answers(thin_book()))))
        for book in some_books(331, 40, 3, 3):
            self.assertIs(ever(book).__class__, tuple)
            for at, (trace, step, place, _) in enumerate(book.limits):
                self.assertTrue(are_tuples((story_of(book, trace, step, place), book_paper(book, at))))
        live = Live(kitchen_example())
        for value in (live.done, live.levels, live.reached, live.clean_next, live.several([]), live.do("chop")):
            self.assertIs(value.__class__, tuple)

    def test_kinds_of_answers(self):
        thin = thin_book()
        for value in (book_paper_holds(thin, 0, book_paper(thin, 0)), book_paper_holds(thin, 0, None), Live(kitchen_example()).undo()):
            self.assertIs(value.__class__, bool)
        for value in (worst_ever(thin, "nut", "serve", "plate"), worst_ever(thin, "soy", "serve", "plate"), *ever(book_example()), len(Live(kitchen_example()))):
            self.assertIs(value.__class__, int)

    def test_the_same_call_returns_the_same(self):
        books = book_example(), strict_book(), thin_book()
        first = [answers(book) for book in books]
        for error, call in ((InvalidStory, lambda: story_levels(books[0], [(1, "wash")])), (NoStep, lambda: worst_ever(books[1], "nut", "fry", "pan")),
                            (NoPlace, lambda: story_of(books[2], "nut", "cut", "pan")), (NoLimit, lambda: book_paper(books[0], 1)),
                            (NoLimit, lambda: book_paper_holds(books[1], -1, ()))):
            with self.assertRaises(error):
                call()
        self.assertEqual([answers(book) for book in books[::-1]], first[::-1])
        self.assertEqual([answers(book) for book in (book_example(), strict_book(), thin_book())], first)

    def test_errors_are_caught_by_their_bases(self):
        book = book_example()
        for base, call in ((ValueError, lambda: story_levels(book, None)), (KeyError, lambda: worst_ever(book, "nut", "fry", "plate")),
                           (KeyError, lambda: story_of(book, "nut", "cut", "bowl")), (IndexError, lambda: book_paper(book, 1)),
                           (ValueError, lambda: Live(kitchen_example()).do("fry")), (ValueError, lambda: Live(kitchen_example()).add(None)),
                           (ValueError, lambda: Desk().say("undo"))):
            with self.assertRaises(base):
                call()

    def test_an_error_comes_ahead_of_what_is_found(self):
        book = book_example()
        with self.assertRaises(NoStep):
            worst_ever(book, "soy", "plate", "serve")
        with self.assertRaises(NoLimit):
            book_paper_holds(book, 1, None)

    def test_four_works_of_five_steps(self):
        for book in some_books(332, 6, 4, 5):
            for at, (trace, step, place, level) in enumerate(book.limits):
                self.assertEqual(at in ever(book), book_paper(book, at) is None)

    def test_seven_traces(self):
        lines = ["work", "a at p q go p q 1, p p 0", "b at q r go q r 1", "ahead a b", "work", "c at r s go r s 1, s s 2", "w at p s"]
        traces = ["nut p 5", "nut q 2", "nut s 1", "egg p 4", "egg r 4", "soy q 5", "soy s 3"]
        limits = ["nut c r 3", "egg c r 3", "soy c s 3", "nut b q 4", "egg b q 4", "soy a q 9"]
        book = Book.read("\n".join([*lines, *[f"trace {trace}" for trace in traces], *[f"limit {limit}" for limit in limits]]))
        self.assertEqual(ever(book), (0, 1, 2, 3))
        self.assertEqual([book_paper(book, at) is None for at in range(6)], [True, True, True, True, False, False])


if __name__ == "__main__":
    unittest.main()
