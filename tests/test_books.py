"""[26]: books, their texts and their errors; [6], [8]: the lines of works, traces and limits."""

import random
import re
import unittest

from examples import (BOOK_LINES, KITCHEN_LINES, LINES, any_values, book_example, example, fenced_example, kitchen_example, plain,
                      some_books)
from plateways.books import Book
from plateways.errors import InvalidBook, InvalidKitchen, InvalidStep, InvalidText, InvalidWork
from plateways.kitchens import Kitchen
from plateways.steps import Step
from plateways.works import Work

TRACES = (("nut", "nuts", 5), ("egg", "bowl", 2), ("nut", "moon", 1))
LIMITS = (("nut", "fry", "pan", 3), ("soy", "cut", "board", 1), ("nut", "fry", "pan", 3))


def two_works():
    return [Work([Step("cut", ["board", "plate"]), Step("wash", ["board"])], [("wash", "cut")]), Work([Step("fry", ["pan"])])]


class AttributesTest(unittest.TestCase):

    def test_attributes(self):
        works = two_works()
        book = Book(works, TRACES, LIMITS)
        self.assertEqual((book.works, book.traces, book.limits), (tuple(works), TRACES, LIMITS))

    def test_without_traces_and_limits(self):
        book = Book([example()])
        self.assertEqual((book.works, book.traces, book.limits), ((example(),), (), ()))
        self.assertEqual(Book(two_works(), TRACES).limits, ())

    def test_the_example(self):
        book = book_example()
        self.assertEqual([work.names for work in book.works], [("chop", "toss"), ("wash", "cut", "serve")])
        self.assertEqual([work.ahead for work in book.works], [(("chop", "toss"),), (("wash", "cut"), ("cut", "serve"))])
        self.assertEqual(book.traces, (("nut", "nuts", 5),))
        self.assertEqual(book.limits, (("nut", "serve", "plate", 3),))

    def test_limits_of_steps_of_any_work(self):
        for limits in ([("nut", "fry", "pan", 1)], [("nut", "cut", "plate", 1), ("nut", "wash", "board", 1), ("nut", "fry", "pan", 1)]):
            self.assertEqual(Book(two_works(), (), limits).limits, tuple(limits))

    def test_beyond_the_limits(self):
        works = [plain([one + other for other in "abcdef"]) for one in "abcdef"]
        names = ("a", "b", "c", "d", "e", "f", "g")
        book = Book(works, [(name, "pan", 10 ** 18 + 1) for name in names], [(name, "aa", "pan", 10 ** 19) for name in names])
        self.assertEqual((len(book.works), len(book.traces), len(book.limits)), (6, 7, 7))
        self.assertEqual(Book(works), Book.read(str(Book(works))))


class ErrorsTest(unittest.TestCase):

    def wrong(self, word, works, traces=(), limits=()):
        with self.assertRaises(InvalidBook) as caught:
            Book(works, traces, limits)
        self.assertEqual(caught.exception.word, word)

    def test_works(self):
        for value in any_values():
            self.wrong("works", value)
            self.wrong("works", [value, plain(["fry"]), value])
            if value.__class__ is Work:
                self.assertEqual(Book([plain(["fry"]), value]).works, (plain(["fry"]), value))
            else:
                self.wrong("works", [value])
                self.wrong("works", (plain(["fry"]), value))
        self.wrong("works", example())
        self.wrong("works", [kitchen_example()])
        self.wrong("works", [Book([example()])])
        self.wrong("works", [str(example())])
        self.wrong("works", [[example()]])

    def test_no_work(self):
        self.wrong("works", [])
        self.wrong("works", ())

    def test_a_name_in_two_works(self):
        self.wrong("works", [example(), example()])
        self.wrong("works", [plain(["a", "b"]), plain(["c"]), plain(["d", "b"])])
        self.wrong("works", [plain(["b"]), Work([Step("b", ["pot"])])])
        # A step may have the name of a place, and a place may be touched in both.
        self.assertEqual(len(Book([plain(["pan"]), plain(["pot"])]).works), 2)

    def test_traces(self):
        for value in any_values():
            if value in ((), [], [("nut", "board", 3)]):
                self.assertEqual(Book(two_works(), value).traces, tuple(value))
            else:
                self.wrong("traces", two_works(), value)
            self.wrong("traces", two_works(), [("nut", "board", 1), value])
        for value in (("nut", "board", 1), ("nut", "pan", 0), ("nut", "pan", True), ["nut", "pan", 1], ("nut", "at", 1), ("nut", "pan")):
            self.wrong("traces", two_works(), (("nut", "board", 1), value))

    def test_limits(self):
        for value in any_values():
            if value in ((), [], [("nut", "cut", "board", 3)]):
                self.assertEqual(Book(two_works(), (), value).limits, tuple(value))
            else:
                self.wrong("limits", two_works(), (), value)
            self.wrong("limits", two_works(), (), [("nut", "fry", "pan", 1), value])
        for value in (("nut", "cut", "pan", 1), ("nut", "fry", "board", 1), ("nut", "wash", "plate", 1), ("nut", "boil", "pan", 1),
                      ("nut", "fry", "pan", 0), ("nut", "fry", "pan", True), ["nut", "fry", "pan", 1], ("Nut", "fry", "pan", 1),
                      ("nut", ["fry"], "pan", 1), ("nut", "fry", ["pan"], 1), ("nut", "fry", "pan")):
            self.wrong("limits", two_works(), (), (("nut", "fry", "pan", 1), value))

    def test_the_first_wrong_argument(self):
        self.wrong("works", None, None, None)
        self.wrong("works", [], [("nut", "pan", 0)], None)
        self.wrong("traces", two_works(), None, None)
        self.wrong("traces", two_works(), [("nut", "pan", 0)], [("nut", "boil", "pan", 1)])
        self.wrong("limits", two_works(), [("nut", "pan", 1)], [("nut", "boil", "pan", 1)])


class TextTest(unittest.TestCase):

    def test_text(self):
        self.assertEqual(str(Book([example()])), "work\n" + str(example()))
        book = Book([plain(["b", "a"], [("b", "a")]), plain("c")], [("nut", "pot", 10 ** 18), ("egg", "pan", 1)],
                    [("soy", "c", "pan", 2), ("egg", "b", "pan", 3)])
        self.assertEqual(str(book), "work\nb at pan\na at pan\nahead b a\nwork\nc at pan\ntrace nut pot 1000000000000000000\n"
                                    "trace egg pan 1\nlimit soy c pan 2\nlimit egg b pan 3")

    def test_read_what_str_tells(self):
        for book in some_books(260, 80, 3, 4):
            again = Book.read(str(book))
            self.assertEqual(again, book)
            self.assertEqual((again.works, again.traces, again.limits), (book.works, book.traces, book.limits))
            self.assertEqual(str(again), str(book))

    def test_equal_if_texts_are(self):
        book = Book(two_works(), TRACES, LIMITS)
        self.assertTrue(book == Book(tuple(two_works()), list(TRACES), list(LIMITS)))
        self.assertFalse(book != Book(tuple(two_works()), list(TRACES), list(LIMITS)))
        for other in (Book(two_works()), Book(two_works(), TRACES), Book(two_works(), (), LIMITS), Book(two_works()[::-1], TRACES, LIMITS),
                      Book(two_works(), TRACES[::-1], LIMITS), Book(two_works(), TRACES, LIMITS[1:]),
                      Book([*two_works(), plain(["boil"])], TRACES, LIMITS)):
            self.assertFalse(book == other)
            self.assertTrue(book != other)

    def test_which_step_is_of_which_work_counts(self):
        self.assertNotEqual(Book([plain("ab"), plain("c")]), Book([plain("a"), plain("bc")]))
        self.assertNotEqual(Book([plain("ab")]), Book([plain("a"), plain("b")]))

    def test_places_and_arrows_in_any_order(self):
        text = "work\ncut at plate board go board plate 1, board board 0\nwork\nfry at pan\ntrace nut board 2\nlimit nut cut board 1"
        self.assertEqual(str(Book.read(text)), "work\ncut at board plate go board board 0, board plate 1\nwork\nfry at pan\n"
                                               "trace nut board 2\nlimit nut cut board 1")


class ReadTest(unittest.TestCase):

    def test_lines_that_cannot_stand_there(self):
        cut, wash, pair = "cut at pan", "wash at pan", "ahead cut wash"
        trace, limit = "trace nut pan 3", "limit nut cut pan 3"
        for lines, at in (
            ([""], 0), ([cut], 0), ([trace], 0), ([limit], 0), ([pair], 0), (["", "work", cut], 0), (["works", cut], 0),
            ([" work", cut], 0), (["work ", cut], 0), (["Work", cut], 0), (["work a", cut], 0),
            (["work"], 1), (["work", ""], 1), (["work", "work"], 1), (["work", "work", cut], 1), (["work", pair], 1),
            (["work", trace], 1), (["work", limit], 1), (["work", cut, "work"], 3), (["work", cut, "work", trace], 3),
            (["work", cut, "work", pair], 3), (["work", cut, "work", "work", wash], 3), (["work", cut, "work", ""], 3),
            (["work", cut, ""], 2), (["work", cut, "", "work", wash], 2), (["work", cut, wash, pair, wash], 4),
            (["work", cut, wash, pair, "work", wash, trace, "work"], 7), (["work", cut, trace, "work", wash], 3),
            (["work", cut, limit, "work", wash], 3), (["work", cut, trace, pair], 3), (["work", cut, limit, trace], 3),
            (["work", cut, trace, limit, ""], 4), (["work", cut, trace, trace, limit, limit, cut], 6),
            (["work", cut, "trace nut pan"], 2), (["work", cut, "trace nut pan 03"], 2), (["work", cut, "limit nut pan 3"], 2),
            (["work", "cut at"], 1), (["work", "work at pan"], 1), (["work", cut, "work", "wash pan"], 3),
            (["work", cut, wash, "ahead cut"], 3), (["work", cut, "work", wash, "ahead cut wash", "work"], 6),
        ):
            with self.subTest(lines), self.assertRaises(InvalidText) as caught:
                Book.read("\n".join(lines))
            self.assertEqual(caught.exception.at, at)

    def test_kitchens_are_no_books(self):
        for text in (str(kitchen_example()), str(fenced_example()), "\n".join(LINES), "cut at pan", ""):
            with self.assertRaises(InvalidText) as caught:
                Book.read(text)
            self.assertEqual(caught.exception.at, 0)
        with self.assertRaises(InvalidText) as caught:
            Kitchen.read("\n".join(BOOK_LINES))
        self.assertEqual(caught.exception.at, 0)

    def test_texts_ahead_of_constructors(self):
        for lines, at in ((["work", "cut at pan pan", "work", "cut at pan", "trace nut pan 0", "limit nut fry pan 0", "x"], 6),
                          (["work", "cut at pan", "cut at pan", "ahead cut cut", "work", "trace nut pan 1"], 5)):
            with self.assertRaises(InvalidText) as caught:
                Book.read("\n".join(lines))
            self.assertEqual(caught.exception.at, at)

    def test_errors_of_the_constructors_in_turn(self):
        cut, wash, fry = "cut at pan", "wash at pan", "fry at pan"
        for lines, error, word in (
            # A wrong step of the second work comes ahead of a wrong first work.
            (["work", cut, cut, "work", "wash at pan pan"], InvalidStep, "places"),
            (["work", cut, wash, "ahead cut cut", "work", "fry at pan go a pan 1", "trace nut pan 0"], InvalidStep, "arrows"),
            (["work", "cut at pan go a pan 1", "work", "wash at pan pan"], InvalidStep, "arrows"),
            (["work", "cut at pan pan", "work", "wash at pan go a pan 1"], InvalidStep, "places"),
            # The first wrong work comes first, and both ahead of the whole.
            (["work", cut, wash, "ahead cut cut", "work", fry, fry], InvalidWork, "ahead"),
            (["work", cut, cut, "work", fry, wash, "ahead fry fry"], InvalidWork, "steps"),
            (["work", cut, "work", cut, wash, "ahead cut wash", "ahead wash cut"], InvalidWork, "ahead"),
            (["work", cut, "work", wash, "ahead cut wash"], InvalidWork, "ahead"),
            (["work", cut, wash, "ahead cut fry", "work", fry, "trace nut pan 0"], InvalidWork, "ahead"),
            (["work", cut, "work", cut, "trace nut pan 0"], InvalidBook, "works"),
            (["work", cut, "work", wash, "work", fry, wash], InvalidBook, "works"),
            (["work", cut, "work", fry, "trace nut pan 0", "limit nut boil pan 1"], InvalidBook, "traces"),
            (["work", cut, "trace nut pan 1", "trace nut pan 2", "limit nut fry pan 1"], InvalidBook, "traces"),
            (["work", cut, "work", fry, "limit nut boil pan 1"], InvalidBook, "limits"),
            (["work", cut, "work", fry, "limit nut fry pot 1"], InvalidBook, "limits"),
            (["work", cut, "work", fry, "limit nut fry pan 1", "limit nut cut pan 0"], InvalidBook, "limits"),
        ):
            with self.subTest(lines), self.assertRaises(error) as caught:
                Book.read("\n".join(lines))
            self.assertEqual(caught.exception.word, word)

    def test_read_against_a_pattern(self):
        name = r"(?!(?:at|go|ahead|trace|limit|work)(?![a-z]))[a-z]{1,6}"
        level = r"(?:0|[1-9][0-9]{0,18})"
        forms = {letter: re.compile(form) for letter, form in {
            "w": "work", "s": rf"{name} at {name}(?: {name})*(?: go {name} {name} {level}(?:, {name} {name} {level})*)?",
            "a": rf"ahead {name} {name}", "t": rf"trace {name} {name} {level}", "l": rf"limit {name} {name} {name} {level}"}.items()}
        # What may stand behind a line of each form; the empty one stands for the beginning.
        behind = {"": "w", "w": "s", "s": "wsatl", "a": "watl", "t": "tl", "l": "l"}
        chance = random.Random(26)
        pieces = (*BOOK_LINES, *KITCHEN_LINES, "work", "work", "trace nut at 1", "limit nut a", "", "ahead a b")
        read = 0
        for _ in range(3000):
            lines = list(BOOK_LINES)
            for _ in range(chance.randint(1, 3)):
                at = chance.randint(0, len(lines))
                lines[at:at + chance.randint(0, 2)] = [chance.choice(pieces)] * chance.randint(0, 1)
            last, known = "", None
            for at, line in enumerate(lines or [""]):
                fits = [letter for letter in behind[last] if forms[letter].fullmatch(line)]
                if not fits:
                    known = at
                    break
                last = fits[0]
            if known is None and last == "w":
                known = len(lines)
            try:
                Book.read("\n".join(lines))
                told = None
            except InvalidText as error:
                told = error.at
            except (InvalidStep, InvalidWork, InvalidBook):
                told = None
            except InvalidKitchen:
                self.fail("a book is no kitchen")
            self.assertEqual(told, known, lines)
            read += known is None
        self.assertGreater(read, 300)

    def told(self, lines):
        """What is told of these lines: the number of a line, the name of an error of a constructor, or nothing."""
        try:
            Book.read("\n".join(lines))
        except InvalidText as error:
            return error.at
        except (InvalidStep, InvalidWork, InvalidBook) as error:
            return error.__class__.__name__, error.word
        return None

    def test_each_line_left_out(self):
        lines = list(BOOK_LINES)
        told = [self.told(lines[:at] + lines[at + 1:]) for at in range(len(lines))]
        # Without the second line work a step stands behind a pair.
        self.assertEqual(told, [0, ("InvalidWork", "ahead"), ("InvalidWork", "ahead"), None, 4, ("InvalidWork", "ahead"),
                                ("InvalidWork", "ahead"), ("InvalidWork", "ahead"), None, None, None, None])

    def test_each_line_twice(self):
        lines = list(BOOK_LINES)
        told = [self.told(lines[:at] + lines[at:at + 1] + lines[at:]) for at in range(len(lines))]
        steps = ("InvalidWork", "steps")
        self.assertEqual(told, [1, steps, steps, None, 5, steps, steps, steps, None, None, ("InvalidBook", "traces"), None])

    def test_each_line_moved_to_the_end(self):
        lines = list(BOOK_LINES)
        told = [self.told(lines[:at] + lines[at + 1:] + [lines[at]]) for at in range(len(lines))]
        self.assertEqual(told, [0, 11, 11, 11, 4, 11, 11, 11, 11, 11, 11, None])

    def test_a_work_moved_to_the_front(self):
        lines = list(BOOK_LINES)
        moved = Book.read("\n".join([*lines[4:10], *lines[:4], *lines[10:]]))
        self.assertEqual(moved.works, book_example().works[::-1])
        self.assertNotEqual(moved, book_example())


if __name__ == "__main__":
    unittest.main()
