"""[30]: papers of books; [4]: NoLimit."""

import random
import unittest

from backwards import all_needs, is_covered, is_right, limit_needs, lots_of, most_by_stories
from examples import any_values, book_example, nested, some_books, strict_book, thin_book
from plateways.books import Book
from plateways.errors import NoLimit
from plateways.recipes import book_paper, book_paper_holds, ever


def book_of(*lines):
    return Book.read("\n".join(lines))


def many_ready_dishes(*extra):
    """A book whose papers need many rows: the dishes of each place wipe it first, with or without some steps more."""
    lines = []
    for first, steps in (("a", ("go p q 0, r s 0", "x", "y", *extra)), ("b", ("go q r 0", "x", "y")), ("c", ("go s s 0", "x", "y"))):
        names = [first + other for other in ("w", "s", *steps[1:])]
        lines.extend(["work", *[f"{name} at p q r s{' ' + steps[0] if name == first + 's' else ''}" for name in names]])
        lines.append(f"ahead {first}w {first}s")
    return book_of(*lines, "trace nut p 5", "limit nut cs s 3")


def some_changes(chance, book, paper):
    """The paper with needs out, in, twice, otherwise, and in another order."""
    kinds = [(at, lot) for at, work in enumerate(book.works) for lot in lots_of(work) if lot]
    places = [place for work in book.works for place in work.places]
    found = []
    for at, (place, dishes, level) in enumerate(paper):
        dish = chance.choice(kinds)
        others = [(chance.choice(places), dishes, level), (place, tuple(sorted([*dishes, dish])), level), (place, dishes, level + 1),
                  (place, tuple(sorted([*dishes[1:], dish])), level), (place, dishes[1:], level), ("moon", dishes, level),
                  (place, dishes, max(1, level - 1)), (place, dishes, level + 100)]
        found.append(paper[:at] + paper[at + 1:])
        found.extend([*paper[:at], other, *paper[at + 1:]] for other in chance.sample(others, 4))
        found.append([*paper, others[1]])
        found.append([*paper, others[4]])
    found.append(chance.sample(paper, len(paper)))
    found.append([*paper, *paper[:3]])
    return [tuple(needs) for needs in found]


class RightTest(unittest.TestCase):

    def test_the_example(self):
        self.assertIsNone(book_paper(book_example(), 0))
        self.assertIsNone(book_paper(strict_book(), 0))
        thin = thin_book()
        paper = book_paper(thin, 0)
        self.assertIs(book_paper_holds(thin, 0, paper), True)
        self.assertTrue(is_right(thin, 0, paper))
        self.assertIs(book_paper_holds(book_example(), 0, paper), False)
        self.assertIs(book_paper_holds(thin, 0, (("plate", (), 3),)), True)

    def test_right_just_where_the_limit_is_not_reached(self):
        sizes = []
        for book in some_books(300, 200, 3, 4):
            for at in range(len(book.limits)):
                paper = book_paper(book, at)
                self.assertEqual(paper is None, at in ever(book), str(book))
                if paper is not None:
                    self.assertTrue(is_right(book, at, paper), f"{book}\n{at}: {paper}")
                    self.assertIs(book_paper_holds(book, at, paper), True)
                    self.assertIs(paper.__class__, tuple)
                    sizes.append(len(paper))
        self.assertGreater(len([size for size in sizes if size > 3]), 5)
        self.assertGreater(sizes.count(0), 3)

    def test_no_limit_with_a_paper_is_reached_in_stories_of_few_rows(self):
        for book in some_books(301, 40):
            best = most_by_stories(book, 4)
            for at, (trace, step, place, level) in enumerate(book.limits):
                if book_paper(book, at):
                    self.assertLess(best.get((trace, step, place), 0), level)

    def test_papers_against_a_plain_look(self):
        chance = random.Random(30)
        found = {True: 0, False: 0}
        for book in [*some_books(302, 60, 2, 3), *some_books(303, 60, 3, 4)]:
            for at in range(len(book.limits)):
                papers = [()]
                paper = book_paper(book, at)
                if paper is None:
                    # What is needed for a limit that is reached, which is no paper.
                    paper = tuple(all_needs(book, limit_needs(book, book.limits[at]), 9))
                    papers.append(paper)
                papers.extend(some_changes(chance, book, paper[:6]))
                for needs in papers:
                    told = book_paper_holds(book, at, needs)
                    self.assertIs(told, is_right(book, at, needs), f"{book}\n{at}: {needs}")
                    found[told] += 1
        self.assertGreater(min(found.values()), 300, found)

    def test_papers_of_other_limits(self):
        told = []
        for book in some_books(304, 40, 3, 3):
            papers = [book_paper(book, at) for at in range(len(book.limits))]
            for at in range(len(book.limits)):
                for paper in papers:
                    if paper is not None:
                        told.append(book_paper_holds(book, at, paper))
                        self.assertIs(told[-1], is_right(book, at, paper))
        self.assertIn(False, told)

    def test_a_limit_whose_step_does_not_lead_on(self):
        book = book_of("work", "a at p q go q q 0", "trace nut p 3", "limit nut a p 1")
        self.assertIs(book_paper_holds(book, 0, ()), True)
        self.assertIs(book_paper_holds(book, 0, (("p", (), 3),)), False)
        self.assertIs(book_paper_holds(book, 0, (("p", (), 4),)), True)
        self.assertIs(book_paper_holds(book, 0, book_paper(book, 0)), True)

    def test_the_last_needs_are_told_also_where_no_level_is_enough(self):
        book = book_of("work", "a at p go p p 0", "trace nut p 3", "limit nut a p 4", "limit soy a p 1")
        for at, level in ((0, 4), (1, 1)):
            self.assertIs(book_paper_holds(book, at, ()), False)
            self.assertIs(book_paper_holds(book, at, (("p", (), level),)), True)
            self.assertIs(book_paper_holds(book, at, (("p", (), level + 1),)), False)
            self.assertIs(book_paper_holds(book, at, book_paper(book, at)), True)
        self.assertIs(book_paper_holds(book, 0, (("p", (), 3),)), False)
        self.assertIs(book_paper_holds(book, 1, (("p", ((0, ("a",)),), 1),)), False)

    def test_the_rules_by_hand(self):
        # The dish that is cut must have been washed, which wipes what is there.
        book = book_of("work", "wash at p", "cut at p q go p q 1, p p 0", "ahead wash cut", "trace nut p 3", "limit nut cut p 2")
        ready, cut = (0, ("wash",)), (0, ("cut", "wash"))
        needs = (("p", (ready,), 2), ("p", (ready, ready), 2))
        self.assertTrue(is_right(book, 0, needs[:1]))
        for paper, known in ((needs[:1], True), (needs, True), (needs[::-1], True), (needs[1:], False), ((), False),
                             ((("p", (ready,), 1),), True), ((("p", (ready,), 3),), False), ((("p", (cut,), 2),), False),
                             ((*needs, ("p", (cut, ready), 2)), True), ((*needs, ("p", (cut, ready, ready), 9)), True),
                             ((("p", (), 2),), False), ((*needs, ("p", (), 3)), False), ((*needs, ("p", (), 4)), True),
                             ((*needs, ("q", (), 1)), True), ((*needs, ("q", (ready,), 1)), False), ((*needs, ("q", (), 1), ("q", (ready,), 1)), True),
                             ((*needs, ("q", (ready,), 3)), False), ((*needs, ("q", (ready,), 4)), True), ((*needs, ("moon", (cut,), 1)), False),
                             ((*needs, ("moon", (cut,), 1), ("moon", (ready,), 1), ("moon", (), 1)), True)):
            self.assertIs(book_paper_holds(book, 0, paper), known, paper)
            self.assertEqual(is_right(book, 0, paper), known, paper)

    def test_what_is_returned_has_no_need_covered_by_another(self):
        for book in some_books(305, 60, 3, 4):
            for at in range(len(book.limits)):
                paper = book_paper(book, at) or ()
                for need in paper:
                    self.assertFalse([other for other in paper if other != need and is_covered(need, other)])


class AnyValuesTest(unittest.TestCase):

    def test_any_values_as_papers(self):
        for book in (book_example(), thin_book(), strict_book()):
            for value in (*any_values(), nested(8), {}, "plate"):
                self.assertIs(book_paper_holds(book, 0, value), False)

    def test_any_values_in_papers(self):
        thin = thin_book()
        for value in any_values():
            self.assertIs(book_paper_holds(thin, 0, (("plate", (), 3), value)), False)
            self.assertIs(book_paper_holds(thin, 0, [("plate", (), 3), value]), False)
            self.assertIs(book_paper_holds(thin, 0, (("plate", value, 3),)), value.__class__ is tuple and value == ())
            self.assertIs(book_paper_holds(thin, 0, (("plate", (), 3), ("plate", (value,), 3))), False)
            self.assertIs(book_paper_holds(thin, 0, (("plate", (), 3), ("plate", ((0, value),), 3))), False)
            self.assertIs(book_paper_holds(thin, 0, (("plate", (), 3), ("plate", ((value, ("chop",)),), 3))),
                          value.__class__ is int and value == 0)
            self.assertIs(book_paper_holds(thin, 0, (("plate", (), 3), ("plate", ((0, ("chop", value)),), 3))), False)
            if value.__class__ is not int or value < 1:
                self.assertIs(book_paper_holds(thin, 0, (("plate", (), 3), ("plate", (), value))), False)
            if value.__class__ is not str or value not in ("a", "cut"):
                self.assertIs(book_paper_holds(thin, 0, (("plate", (), 3), (value, (), 9))), value.__class__ is str and value == "board")

    def test_things_that_are_no_needs(self):
        thin = thin_book()
        good = ("plate", (), 3)
        chop, wash = (0, ("chop",)), (1, ("wash",))
        for value in (["plate", (), 3], ("plate", ()), ("plate", (), 3, 3), ("plate", [], 3), ("Plate", (), 9), ("at", (), 9), ("plate", (), 0),
                      ("plate", (), -1), ("plate", (), True), ("plate", (), "3"), ("plate", (), None), ("plate", None, 3), ("plate", chop, 3),
                      ("plate", (wash, chop), 3), ("plate", ((0, ()),), 3), ("plate", ((0, ("toss",)),), 3), ("plate", ((0, ("wash",)),), 3),
                      ("plate", ((2, ("chop",)),), 3), ("plate", ((-1, ("wash",)),), 3), ("plate", ((1, ("wash", "cut")),), 3),
                      ("plate", ((0, ("chop", "chop")),), 3), ("plate", ((0, ["chop"]),), 3), ("plate", ([0, ("chop",)],), 3),
                      ("plate", ((True, ("wash",)),), 3), ("plate", ((False, ("chop",)),), 3), ("plate", ((0, "chop"),), 3),
                      ("plate", ((0, ("chop",), 0),), 3), ("plate", ((0,),), 3), ("plate", ((0, ("fry",)),), 3), ("plate", (("chop",),), 3)):
            self.assertIs(book_paper_holds(thin, 0, (good, value)), False, value)
            self.assertIs(book_paper_holds(thin, 0, (value, good)), False, value)
        for value in (("plate", (chop, wash), 3), ("plate", (chop, chop, wash), 4), ("plate", ((0, ("chop", "toss")), (1, ("cut", "serve", "wash"))), 3),
                      ("plate", (), 4), ("plate", (), 10 ** 30), ("moon", (), 1)):
            self.assertIs(book_paper_holds(thin, 0, (good, value)), True, value)

    def test_very_many_dishes(self):
        thin = thin_book()
        dishes = ((0, ("chop",)),) * 60 + ((1, ("wash",)),) * 60
        self.assertIs(book_paper_holds(thin, 0, (("plate", (), 3), ("plate", dishes, 3))), True)
        self.assertIs(book_paper_holds(thin, 0, (("plate", (), 3), ("nuts", dishes, 3))), False)


class SizeTest(unittest.TestCase):

    def test_papers_of_many_needs(self):
        chance = random.Random(31)
        for book, many in ((many_ready_dishes(), 200), (many_ready_dishes("z"), 400)):
            paper = book_paper(book, 0)
            self.assertGreater(len(paper), many)
            self.assertIs(book_paper_holds(book, 0, paper), True)
            self.assertIs(book_paper_holds(book, 0, paper[::-1]), True)
            self.assertIs(book_paper_holds(book, 0, tuple(chance.sample(paper, len(paper))) + paper[:10]), True)
            for at in chance.sample(range(len(paper)), 4):
                self.assertIs(book_paper_holds(book, 0, paper[:at] + paper[at + 1:]), False)
            for place, dishes, level in chance.sample(paper, 3):
                more = tuple(sorted([*dishes, chance.choice(dishes)]))
                self.assertIs(book_paper_holds(book, 0, (*paper, (place, more, level))), True)
            self.assertIs(book_paper_holds(book, 0, (*paper, ("p", (), 5))), False)
            self.assertIs(book_paper_holds(book, 0, (*paper, ("p", (), 6))), True)
        self.assertTrue(is_right(many_ready_dishes(), 0, book_paper(many_ready_dishes(), 0)))

    def test_great_levels(self):
        most = 10 ** 18
        book = book_of("work", f"a at p q go p q {most}, q q 0", f"trace nut p {most}", f"limit nut a q {most}", "limit nut a q 1")
        self.assertEqual(ever(book), ())
        for at in range(2):
            self.assertIs(book_paper_holds(book, at, book_paper(book, at)), True)


class ErrorsTest(unittest.TestCase):

    def test_no_limit(self):
        for book in (book_example(), Book(book_example().works)):
            for at in (len(book.limits), -1, 10 ** 18, -10 ** 18):
                for call in (lambda: book_paper(book, at), lambda: book_paper_holds(book, at, ()), lambda: book_paper_holds(book, at, None)):
                    with self.assertRaises(NoLimit) as caught:
                        call()
                    self.assertEqual(caught.exception.at, at)


if __name__ == "__main__":
    unittest.main()
