"""[28], [29]: what can come in any story, however many dishes are made."""

import unittest

from backwards import most_by_stories, spots_of, worst_backwards
from examples import book_example, some_books, strict_book, thin_book
from plateways.books import Book
from plateways.errors import NoPlace, NoStep
from plateways.kitchens import Kitchen
from plateways.reaching import harms, worst
from plateways.recipes import ever, story_of, worst_ever
from plateways.stories import story_levels, story_reached
from plateways.works import Work


def book_of(*lines):
    return Book.read("\n".join(lines))


def level_ahead(book, story, trace, place):
    """The level just ahead of the last step of the story."""
    return sum(level for name, spot, level in story_levels(book, story[:-1]) if (name, spot) == (trace, place))


class Checks(unittest.TestCase):

    def check_story(self, book, trace, step, place):
        """The worst level, after the story has shown that it is there."""
        level, story = worst_ever(book, trace, step, place), story_of(book, trace, step, place)
        told = f"{book}\n{trace} {step} {place}: {story}"
        if level == 0:
            self.assertIsNone(story, told)
        else:
            self.assertIs(story.__class__, tuple)
            self.assertEqual(story[-1][1], step, told)
            self.assertEqual(level_ahead(book, story, trace, place), level, told)
        return level

    def check_ever(self, book):
        """The limits that are reached, by the worst levels."""
        steps = {step.name: step for work in book.works for step in work.steps}
        known = [at for at, (trace, step, place, level) in enumerate(book.limits)
                 if place in [start for start, _, _ in steps[step].arrows] and worst_ever(book, trace, step, place) >= level]
        self.assertEqual(ever(book), tuple(known), str(book))
        for at in known:
            trace, step, place, _ = book.limits[at]
            self.assertIn(at, story_reached(book, story_of(book, trace, step, place)))
        return known


class StoriesTest(Checks):

    def test_the_example(self):
        book = book_example()
        self.assertEqual(self.check_story(book, "nut", "serve", "plate"), 4)
        self.assertEqual((ever(book), story_reached(book, story_of(book, "nut", "serve", "plate"))), ((0,), (0,)))
        self.assertEqual((ever(strict_book()), ever(thin_book())), ((0,), ()))
        self.assertEqual(self.check_story(strict_book(), "nut", "serve", "plate"), 4)
        self.assertEqual(self.check_story(thin_book(), "nut", "serve", "plate"), 2)

    def test_against_stories_of_few_rows(self):
        levels = []
        for book, many in [*[(book, 4) for book in some_books(280, 80)], *[(book, 5) for book in some_books(281, 40, 2, 2)]]:
            best = most_by_stories(book, many)
            for spot in spots_of(book):
                told = self.check_story(book, *spot)
                self.assertGreaterEqual(told, best.get(spot, 0), f"{book}\n{spot}")
                levels.append((told > 0, told > best.get(spot, 0)))
            self.check_ever(book)
        for kind in ((False, False), (True, False), (True, True)):
            self.assertGreater(levels.count(kind), 10, kind)

    def test_against_all_needs(self):
        levels = []
        for book in [*some_books(282, 50, 3, 3), *some_books(283, 15, 2, 4)]:
            for spot in spots_of(book):
                told = self.check_story(book, *spot)
                self.assertEqual(told, worst_backwards(book, *spot), f"{book}\n{spot}")
                levels.append(told)
        for level in range(4):
            self.assertGreater(levels.count(level), 10, level)

    def test_ever(self):
        found = [len(self.check_ever(book)) for book in some_books(284, 150, 3, 4)]
        for many in range(3):
            self.assertGreater(found.count(many), 5, many)

    def test_what_comes_in_an_order_comes_in_a_story(self):
        for book in some_books(285, 60, 1, 4):
            kitchen = Kitchen(book.works[0], book.traces, book.limits)
            for trace, step, place in spots_of(book):
                self.assertGreaterEqual(worst_ever(book, trace, step, place), worst(kitchen, trace, step, place))
            self.assertTrue(set(harms(kitchen)) <= set(ever(book)))


class ByHandTest(Checks):

    def both(self, *lines):
        """The limits that are reached in some order of one work, and in some story of it as the only recipe."""
        kitchen = Kitchen.read("\n".join(lines))
        book = Book([kitchen.work], kitchen.traces, kitchen.limits)
        self.check_ever(book)
        return harms(kitchen), ever(book)

    def test_a_dish_that_must_stand_ready(self):
        lines = ["chop at n p go n p 1, n n 0", "wash at p", "cut at p q go p q 0", "ahead wash cut", "ahead chop wash",
                 "trace nut n 5", "limit nut cut p 4"]
        self.assertEqual(self.both(*lines), ((), (0,)))
        book = book_of("work", *lines)
        story = story_of(book, "nut", "cut", "p")
        self.assertEqual(self.check_story(book, "nut", "cut", "p"), 4)
        # The dish that is cut was washed ahead of the chopping of another dish.
        self.assertEqual(len({dish for dish, _ in story}), 2)
        self.assertEqual(worst_ever(book, "nut", "wash", "p"), 4)

    def test_what_is_washed_away_at_first_never_comes_back(self):
        lines = ["wash at p", "cut at p q go p q 0", "ahead wash cut", "trace nut p 5", "limit nut cut p 1"]
        self.assertEqual(self.both(*lines), ((), ()))
        book = book_of("work", *lines)
        self.assertEqual((worst_ever(book, "nut", "cut", "p"), story_of(book, "nut", "cut", "p"), worst_ever(book, "nut", "wash", "p")), (0, None, 5))
        # A recipe that takes the grain out of the way and brings it back again helps.
        more = Book.read("\n".join(["work", *lines[:3], "work", "hide at p r go p r 1", "show at p r go r p 1", *lines[3:]]))
        self.assertEqual(self.check_story(more, "nut", "cut", "p"), 3)
        self.assertEqual(ever(more), (0,))
        # In one dish, too: hide, wash, show, cut.
        one = Book.read("\n".join(["work", *lines[:2], "hide at p r go p r 1", "show at p r go r p 1", *lines[2:]]))
        self.assertEqual(self.check_story(one, "nut", "cut", "p"), 3)

    def test_a_dish_that_led_the_grain_on_cannot_do_it_again(self):
        lines = ["a at p q r go p q 0, q r 0", "c at r", "ahead a c", "trace nut p 3", "limit nut c r 1"]
        book = book_of("work", *lines)
        story = story_of(book, "nut", "c", "r")
        self.assertEqual(self.check_story(book, "nut", "c", "r"), 3)
        self.assertEqual([name for _, name in story].count("a"), 2)
        self.assertEqual(ever(book), ())
        self.assertEqual(worst(Kitchen.read("\n".join(lines)), "nut", "c", "r"), 0)

    def test_the_same_step_by_many_dishes(self):
        # Each of the four takes the grain one place on; the dish of c may be one of them.
        lines = ["work", "a at p q r s go p q 1, q r 1, r s 1", "c at s go s s 0", "ahead a c", "trace nut p 9", "limit nut c s 6", "limit nut c s 7"]
        book = book_of(*lines)
        self.assertEqual(self.check_story(book, "nut", "c", "s"), 6)
        story = story_of(book, "nut", "c", "s")
        self.assertEqual(([name for _, name in story].count("a"), ever(book)), (3, (0,)))

    def test_a_ready_dish_is_begun_ahead_of_the_grain(self):
        # The first step of each dish wipes all places, so as many dishes as needed must have done it ahead of all.
        lines = ["work", "wipe at p q r", "a at p q r go p q 0, q r 0", "ahead wipe a", "work", "fill at n p go n p 0, n n 0",
                 "work", "eat at r go r r 0", "trace nut n 2", "limit nut eat r 2"]
        book = book_of(*lines)
        story = story_of(book, "nut", "eat", "r")
        self.assertEqual(self.check_story(book, "nut", "eat", "r"), 2)
        self.assertEqual([name for _, name in story], ["wipe", "wipe", "fill", "a", "a", "eat"])
        self.assertEqual(ever(book), (0,))

    def test_washings_between(self):
        lines = ["a at p q go p q 0, p p 0", "w at q", "c at q r go q r 0", "ahead a w", "ahead w c", "trace nut p 3", "limit nut c q 3"]
        self.assertEqual(self.both(*lines), ((), (0,)))
        # Where the dish that gets ready leaves nothing for another one, it does not come.
        self.assertEqual(self.both("a at p q go p q 0", *lines[1:]), ((), ()))
        # Neither does it where the washing touches the box, too.
        lines[1] = "w at p q"
        self.assertEqual(self.both(*lines), ((), ()))
        # Once there is a place where it is safe, it does.
        self.assertEqual(self.both("b at p s go p s 0, s p 0", *lines), ((), (0,)))

    def test_losses_by_rings(self):
        lines = ["work", "w at p", "a at p q go p q 0", "ahead w a", "work", "d at p q go p q 5", "work", "e at q", "trace nut p 7"]
        self.assertEqual(self.check_story(book_of(*lines), "nut", "e", "q"), 2)
        for less, known in ((0, 7), (1, 5), (2, 3), (3, 2), (4, 2)):
            book = book_of(*lines[:8], "work", f"f at p s go p s {less}, s p {less}", lines[8])
            self.assertEqual(self.check_story(book, "nut", "e", "q"), known)
        ring = book_of("work", "a at p q go p q 1, q p 1, p p 2", "e at q", "trace nut p 9")
        self.assertEqual((self.check_story(ring, "nut", "e", "q"), self.check_story(ring, "nut", "a", "q"), worst_ever(ring, "nut", "a", "p")), (8, 8, 9))

    def test_the_best_of_several_places(self):
        lines = ["work", "a at p q r go p r 4, q r 1, r r 0", "e at r", "trace nut p 9", "trace nut q 5", "trace nut r 3", "trace egg r 9"]
        self.assertEqual(self.check_story(book_of(*lines), "nut", "e", "r"), 5)
        self.assertEqual(self.check_story(book_of(*lines[:4], *lines[5:]), "nut", "e", "r"), 5)
        self.assertEqual(self.check_story(book_of(*lines[:3], *lines[4:]), "nut", "e", "r"), 4)
        self.assertEqual(self.check_story(book_of(*lines[:3], *lines[5:]), "nut", "e", "r"), 3)

    def test_without_an_arrow_from_the_place(self):
        book = book_of("work", "a at p q go q q 0", "trace nut p 3", "limit nut a p 1", "limit nut a q 1")
        self.assertEqual((worst_ever(book, "nut", "a", "p"), story_of(book, "nut", "a", "p"), ever(book)), (3, ((0, "a"),), ()))

    def test_a_trace_that_is_nowhere(self):
        book = book_of("work", "a at p go p p 0", "limit nut a p 1")
        self.assertEqual((worst_ever(book, "nut", "a", "p"), story_of(book, "nut", "a", "p"), ever(book)), (0, None, ()))
        book = book_of("work", "a at p go p p 0", "trace nut moon 5", "limit nut a p 1")
        self.assertEqual((worst_ever(book, "nut", "a", "p"), worst_ever(book, "egg", "a", "p"), ever(book)), (0, 0, ()))

    def test_levels_that_are_not_enough(self):
        book = book_of("work", "a at p go p p 0", "trace nut p 3", "limit nut a p 3", "limit nut a p 4", "limit egg a p 1")
        self.assertEqual(ever(book), (0,))
        self.assertEqual(ever(book_of("work", "a at p q go p q 3", "b at q go q q 0", "trace nut p 3", "limit nut b q 1")), ())
        self.assertEqual(ever(book_of("work", "a at p q go p q 2", "b at q go q q 0", "trace nut p 3", "limit nut b q 1")), (0,))

    def test_great_levels(self):
        most = 10 ** 18
        book = book_of("work", f"a at p q go p q {most - 1}, q p 0, p p 1", f"e at q go q q {most}", f"trace nut p {most}", f"limit nut a p {most}")
        self.assertEqual((self.check_story(book, "nut", "e", "q"), self.check_story(book, "nut", "a", "p"), ever(book)), (1, most, (0,)))

    def test_no_limits(self):
        self.assertEqual(ever(Book(book_example().works, [("nut", "nuts", 5)])), ())


class SizeTest(Checks):

    def test_books_at_their_limits_and_beyond(self):
        for book in [*some_books(286, 12, 3, 4), *some_books(287, 8, 4, 5)]:
            for spot in spots_of(book)[::3]:
                self.check_story(book, *spot)
            self.check_ever(book)

    def test_many_ready_dishes(self):
        # To come from p to s by a alone takes a dish for each place; each of them has wiped all ahead.
        steps = "a at p q r s go p q 0, q r 1, r s 1, s p 0, s s 3"
        book = book_of("work", "x at p q r s", "y at p q r s", steps, "z at p q r s", "ahead x a", "ahead y a", "ahead a z", "work",
                       "fill at n p go n p 0, n n 0", "eat at s go s s 0", "trace nut n 9", "limit nut eat s 7", "limit nut z s 8")
        self.assertEqual(self.check_story(book, "nut", "eat", "s"), 7)
        self.assertEqual(ever(book), (0,))


class ErrorsTest(unittest.TestCase):

    def test_no_step(self):
        book = book_example()
        for call in (worst_ever, story_of):
            for name in ("fry", "board", "nut", "toolong", ""):
                with self.assertRaises(NoStep) as caught:
                    call(book, "nut", name, "plate")
                self.assertEqual(caught.exception.name, name)

    def test_no_place(self):
        book = book_example()
        for call in (worst_ever, story_of):
            for step, place in (("serve", "board"), ("chop", "plate"), ("wash", "moon"), ("cut", "cut")):
                with self.assertRaises(NoPlace) as caught:
                    call(book, "nut", step, place)
                self.assertEqual(caught.exception.name, place)
            # Also for a trace that is nowhere.
            with self.assertRaises(NoPlace):
                call(Book([Work.read("a at p")]), "soy", "a", "q")

    def test_steps_of_all_works(self):
        for step, place in (("chop", "nuts"), ("toss", "bowl"), ("wash", "board"), ("serve", "plate")):
            self.assertIs(worst_ever(book_example(), "nut", step, place).__class__, int)


if __name__ == "__main__":
    unittest.main()
