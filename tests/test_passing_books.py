"""[1], [2], [3] for logs, comparing and books: what is passed, returned, compared and iterated, and changed later."""

import unittest

from examples import BOOK_LINES, book_example, fenced_example, kitchen_example, plain, thick_kitchens
from plateways.books import Book
from plateways.comparing import alike, never_worse, worse
from plateways.errors import InvalidBook, InvalidKitchen, InvalidRow, NoLimit
from plateways.kitchens import Kitchen
from plateways.logs import questions, settling, status
from plateways.steps import Step
from plateways.works import Work

LOG = (("chop", "cut"), ("chop", "wash"))


def calm_kitchen():
    return kitchen_example().with_work(fenced_example())


def answers(kitchen, calm):
    """What many calls return, by two kitchens by turns."""
    found = []
    for one, other in ((kitchen, calm), (calm, kitchen), (kitchen, kitchen)):
        found.extend([status(one, LOG, 0), status(other, [], 0), settling(one, LOG, 0), questions(other, (), 0), questions(one, LOG, 0)])
        found.extend([never_worse(one, other), worse(one, other), alike(one, other)])
    return found


class PassingTest(unittest.TestCase):

    def test_by_parameter_names(self):
        kitchen, calm = kitchen_example(), calm_kitchen()
        for call in (status, settling, questions):
            self.assertEqual(call(at=0, log=LOG, kitchen=kitchen), call(kitchen, LOG, 0))
            self.assertEqual(call(kitchen, LOG, at=0), call(kitchen, LOG, 0))
        for call in (never_worse, worse, alike):
            self.assertEqual(call(q=calm, p=kitchen), call(kitchen, calm))
            self.assertEqual(call(calm, q=kitchen), call(calm, kitchen))
        book = book_example()
        self.assertEqual(Book(limits=book.limits, traces=book.traces, works=book.works), book)
        self.assertEqual(Book(works=book.works, limits=book.limits), Book(book.works, (), book.limits))
        self.assertEqual(Book.read(text="\n".join(BOOK_LINES)), book)

    def test_wrong_numbers_of_arguments(self):
        kitchen = kitchen_example()
        for call in (lambda: Book(), lambda: Book([kitchen.work], (), (), ()), lambda: status(kitchen, []), lambda: settling(kitchen),
                     lambda: questions(kitchen, [], 0, 0), lambda: worse(kitchen), lambda: alike(kitchen, kitchen, kitchen)):
            with self.assertRaises(TypeError):
                call()

    def test_lists_and_tuples(self):
        kitchen, book = kitchen_example(), book_example()
        for call in (status, settling, questions):
            self.assertEqual(call(kitchen, list(LOG), 0), call(kitchen, LOG, 0))
            self.assertEqual(call(kitchen, [], 0), call(kitchen, (), 0))
        self.assertEqual(Book(list(book.works), list(book.traces), list(book.limits)), book)
        self.assertEqual(Book(tuple(book.works), book.traces, tuple(book.limits)), book)

    def test_arguments_stay_and_may_be_changed_later(self):
        kitchen, log = kitchen_example(), list(LOG)
        first = [call(kitchen, log, 0) for call in (status, settling, questions)]
        self.assertEqual((log, str(kitchen)), (list(LOG), str(kitchen_example())))
        log.reverse()
        log.pop()
        self.assertEqual([call(kitchen, LOG, 0) for call in (status, settling, questions)], first)
        works, traces, limits = [plain("ab"), plain("c")], [("nut", "pan", 5)], [("nut", "c", "pan", 3)]
        book = Book(works, traces, limits)
        text = str(book)
        works.pop()
        traces.append(("egg", "pan", 1))
        limits.clear()
        self.assertEqual((str(book), len(book.works), book.traces, book.limits), (text, 2, (("nut", "pan", 5),), (("nut", "c", "pan", 3),)))
        steps = [Step("d", ["pan"])]
        work = Work(steps)
        more = Book([work])
        steps.append(Step("e", ["pan"]))
        self.assertEqual(str(more), "work\nd at pan")

    def test_sequences_are_tuples(self):
        book, read = Book([plain("a")], [("nut", "pan", 5)], [("nut", "a", "pan", 3)]), book_example()
        for value in (book.works, book.traces, book.limits, read.works, read.traces, read.limits, read.traces[0], read.limits[0],
                      Book([plain("a")]).traces, Book([plain("a")]).limits):
            self.assertIs(value.__class__, tuple)
        found = []
        for kitchen in [kitchen_example(), *thick_kitchens(970, 30, 4)]:
            for at in range(len(kitchen.limits)):
                told = settling(kitchen, [], at)
                self.assertIs(told.__class__, tuple)
                self.assertTrue(all(pair.__class__ is tuple for pair in told))
                found.extend(told)
        self.assertTrue(found)

    def test_kinds_of_answers(self):
        kitchen, calm = kitchen_example(), calm_kitchen()
        for value in (never_worse(kitchen, calm), alike(kitchen, calm), alike(calm, calm), book_example() == book_example()):
            self.assertIs(value.__class__, bool)
        for value in (worse(kitchen, calm), questions(kitchen, [], 0), questions(calm, [], 0)):
            self.assertIs(value.__class__, int)
        self.assertIs(status(kitchen, [], 0).__class__, str)
        self.assertIsNone(worse(calm, kitchen))

    def test_the_same_call_returns_the_same(self):
        kitchen, calm, book = kitchen_example(), calm_kitchen(), book_example()
        first = answers(kitchen, calm)
        for error, call in ((InvalidRow, lambda: status(kitchen, [("cut", "cut")], 0)), (NoLimit, lambda: questions(calm, LOG, 1)),
                            (InvalidRow, lambda: settling(calm, [("wash", "chop")], 5)), (InvalidBook, lambda: Book([])),
                            (InvalidKitchen, lambda: worse(kitchen, Kitchen(kitchen.work)))):
            with self.assertRaises(error):
                call()
        self.assertEqual(answers(kitchen, calm), first)
        self.assertEqual(answers(kitchen_example(), calm_kitchen()), first)
        self.assertEqual((str(kitchen), str(calm), str(book)), (str(kitchen_example()), str(calm_kitchen()), str(book_example())))

    def test_not_iterable(self):
        for call in (iter, list, tuple, len, lambda value: "nut" in value, lambda value: value[0]):
            with self.assertRaises(TypeError):
                call(book_example())

    def test_equal_to_nothing_else(self):
        book = Book([plain("a")])
        for value in (book.works, book.works[0], None, True, 0, str(book), [book], (book,), Kitchen(plain("a")), object()):
            self.assertIs(book == value, False)
            self.assertIs(value == book, False)
            self.assertIs(book != value, True)

    def test_bools_are_no_integers(self):
        work = plain("a")
        for level in (True, False):
            with self.assertRaises(InvalidBook) as caught:
                Book([work], [("nut", "pan", level)])
            self.assertEqual(caught.exception.word, "traces")
            with self.assertRaises(InvalidBook) as caught:
                Book([work], (), [("nut", "a", "pan", level)])
            self.assertEqual(caught.exception.word, "limits")

    def test_errors_are_caught_by_their_bases(self):
        kitchen = kitchen_example()
        for base, call in ((ValueError, lambda: status(kitchen, None, 0)), (IndexError, lambda: settling(kitchen, (), 1)),
                           (ValueError, lambda: Book(None)), (ValueError, lambda: alike(kitchen, Kitchen(kitchen.work)))):
            with self.assertRaises(base):
                call()


if __name__ == "__main__":
    unittest.main()
