"""[27]: stories, and what is there and was reached behind them."""

import random
import unittest

from examples import any_values, book_example, cooked_in_turn, nested, plain, some_books, strict_book
from plateways.books import Book
from plateways.errors import InvalidStory
from plateways.steps import Step
from plateways.stories import story_levels, story_reached
from plateways.works import Work


def book_of(*lines):
    return Book.read("\n".join(lines))


def next_turns(book, story):
    """All turns by which the story can go on, looked at plainly."""
    rows = []
    for dish, name in story:
        rows.extend([[]] if dish == len(rows) else [])
        rows[dish].append(name)
    found = []
    for dish, row in enumerate([*rows, []]):
        for work in book.works:
            if not row or row[0] in work.names:
                for name in work.names:
                    if name not in row and all(one in row for one, other in work.ahead if other == name):
                        found.append((dish, name))
    return found


def some_story(chance, book, many):
    story = []
    for _ in range(many):
        turns = next_turns(book, story)
        # The dish begun last, and those begun already, more often than new ones.
        begun = [turn for turn in turns if turn[0] <= max([dish for dish, _ in story], default=-1)]
        story.append(chance.choice(begun if begun and chance.random() < 0.6 else turns))
    return story


def cooked(book, story):
    """The levels behind the story, and the limits that were reached in it."""
    steps = {step.name: step for work in book.works for step in work.steps}
    return cooked_in_turn(book, [steps[name] for _, name in story])


class StoriesTest(unittest.TestCase):

    def check(self, book, story):
        levels, reached = cooked(book, story)
        told = f"{book}\n{story}"
        self.assertEqual(story_levels(book, story), levels, told)
        self.assertEqual(story_reached(book, tuple(story)), reached, told)
        return reached

    def test_the_example(self):
        book = book_example()
        story = [(0, "wash"), (1, "chop"), (0, "cut"), (0, "serve")]
        self.assertEqual(story_reached(book, story), (0,))
        self.assertEqual(story_levels(book, story), (("nut", "board", 5), ("nut", "nuts", 5), ("nut", "plate", 4)))
        self.assertEqual(story_levels(book, story[:3]), (("nut", "board", 5), ("nut", "nuts", 5), ("nut", "plate", 4)))
        self.assertEqual((story_levels(book, story[:1]), story_reached(book, story[:3])), ((("nut", "nuts", 5),), ()))

    def test_no_row(self):
        for story in ((), []):
            self.assertEqual(story_levels(book_example(), story), (("nut", "nuts", 5),))
            self.assertEqual(story_reached(book_example(), story), ())
        self.assertEqual(story_levels(Book([plain("a")]), ()), ())

    def test_against_plain_cooking(self):
        chance = random.Random(27)
        reached = []
        for book in some_books(270, 120, 3, 4):
            for many in (1, 4, 9, 16, 20):
                reached.append(self.check(book, some_story(chance, book, many)))
        self.assertGreater(len([told for told in reached if told]), 40)
        self.assertGreater(len([told for told in reached if len(told) > 1]), 4)

    def test_several_dishes_of_one_recipe(self):
        book = book_of("work", "a at p q go p q 1, p p 0, q q 0", "b at q r go q r 0, r r 0", "ahead a b", "trace nut p 5", "limit nut b q 4")
        for story in ([(0, "a"), (1, "a"), (2, "a")], [(0, "a"), (1, "a"), (1, "b"), (0, "b")], [(0, "a"), (0, "b"), (1, "a"), (1, "b")]):
            self.check(book, story)
        self.assertEqual(story_levels(book, [(0, "a"), (1, "a"), (1, "b"), (0, "b")]), (("nut", "p", 5), ("nut", "r", 4)))
        self.assertEqual(story_reached(book, [(0, "a"), (1, "a"), (1, "b"), (0, "b")]), (0,))

    def test_a_limit_reached_twice_is_told_once(self):
        book = book_of("work", "a at p go p p 1", "work", "b at p go p p 0", "trace nut p 3", "limit nut a p 3", "limit nut b p 2", "limit nut a p 4")
        self.assertEqual(story_reached(book, [(0, "a")]), (0,))
        self.assertEqual(story_reached(book, [(0, "b"), (1, "b")]), (1,))
        for many in (1, 2, 3, 4):
            self.assertEqual(story_reached(book, [(dish, "b") for dish in range(many)] + [(many, "a"), (many + 1, "b"), (many + 2, "a")]), (0, 1))

    def test_the_same_places_for_all_dishes(self):
        book = strict_book()
        self.assertEqual(story_levels(book, [(0, "wash"), (1, "chop"), (0, "cut")]), (("nut", "board", 5), ("nut", "plate", 4)))
        self.assertEqual(story_levels(book, [(0, "chop"), (1, "wash"), (2, "chop"), (1, "cut"), (0, "toss"), (1, "serve")]),
                         (("nut", "board", 5), ("nut", "bowl", 5), ("nut", "plate", 4)))

    def test_thirty_rows_and_more(self):
        chance = random.Random(28)
        for book in some_books(271, 20, 3, 4):
            for many in (30, 60):
                self.check(book, some_story(chance, book, many))
        book = book_example()
        story = [(dish, name) for dish in range(15) for name in (("chop", "toss") if dish % 2 else ("wash", "cut"))]
        self.assertEqual(story_reached(book, [*story, (0, "serve"), (2, "serve")]), self.check(book, [*story, (0, "serve"), (2, "serve")]))


class ErrorsTest(unittest.TestCase):

    def wrong(self, at, story, book=None):
        for call in (story_levels, story_reached):
            with self.assertRaises(InvalidStory) as caught:
                call(book or book_example(), story)
            self.assertEqual(caught.exception.at, at, story)

    def test_any_values_as_stories(self):
        book = Book([plain(["cut"]), plain(["chop"])])
        for value in (*any_values(), nested(8), "cut"):
            if value.__class__ in (list, tuple) and value in ((), [], ((0, "cut"),), [(0, "cut")]):
                self.assertEqual((story_levels(book, value), story_reached(book, value)), ((), ()))
            else:
                self.wrong(0, value, book)

    def test_any_values_in_stories(self):
        for value in any_values():
            if value != (0, "cut"):
                self.wrong(0, [value])
                self.wrong(2, [(0, "wash"), (1, "chop"), value])
                self.wrong(1, ((0, "wash"), value, None))
            if value not in ("cut", "chop", "wash"):
                self.wrong(1, [(0, "wash"), (0, value)])
            if value.__class__ is not int or value not in (0, 1):
                self.wrong(1, [(0, "chop"), (value, "wash")])
                self.wrong(1, [(0, "chop"), (value, "toss")])

    def test_a_bool_is_no_dish(self):
        self.wrong(0, [(False, "chop")])
        self.wrong(1, [(0, "chop"), (True, "chop")])
        self.wrong(1, [(0, "chop"), (False, "toss")])

    def test_things_that_are_no_pairs(self):
        for value in ([0, "wash"], (0,), (0, "wash", 0), (), ("wash", 0), ("0", "wash"), (0, None), (0, ["wash"]), (-1, "wash"), (None, "wash")):
            self.wrong(0, [value])
            self.wrong(1, [(0, "chop"), value])

    def test_a_dish_that_is_not_begun_yet(self):
        self.wrong(0, [(1, "chop")])
        self.wrong(1, [(0, "chop"), (2, "chop")])
        self.wrong(2, [(0, "chop"), (1, "wash"), (3, "wash")])
        story_levels(book_example(), [(0, "chop"), (1, "wash"), (2, "wash")])

    def test_a_dish_cannot_begin_with_what_has_others_ahead(self):
        self.wrong(0, [(0, "toss")])
        self.wrong(1, [(0, "wash"), (1, "cut")])
        self.wrong(1, [(0, "wash"), (0, "serve")])
        self.wrong(1, [(0, "chop"), (1, "toss")])

    def test_a_step_twice(self):
        self.wrong(1, [(0, "chop"), (0, "chop")])
        self.wrong(3, [(0, "wash"), (0, "cut"), (1, "wash"), (0, "wash")])
        self.wrong(2, [(0, "chop"), (0, "toss"), (0, "toss"), (0, "chop")])

    def test_a_step_of_another_recipe_or_of_none(self):
        self.wrong(1, [(0, "chop"), (0, "wash")])
        self.wrong(2, [(0, "wash"), (0, "cut"), (0, "chop")])
        self.wrong(1, [(0, "chop"), (0, "fry")])
        self.wrong(1, [(0, "chop"), (1, "fry")])
        self.wrong(0, [(0, "board")])

    def test_the_first_wrong_one(self):
        self.wrong(1, [(0, "chop"), (0, "chop"), None, (9, "x")])
        self.wrong(0, [None, (0, "chop"), (0, "chop")])

    def test_each_turn_that_cannot_be_next(self):
        chance = random.Random(29)
        wrong = 0
        for book in some_books(272, 25):
            names = [name for work in book.works for name in work.names]
            story = some_story(chance, book, chance.randint(0, 6))
            begun = len({dish for dish, _ in story})
            known = next_turns(book, story)
            for dish in range(begun + 2):
                for name in names:
                    if (dish, name) in known:
                        story_levels(book, [*story, (dish, name)])
                    else:
                        self.wrong(len(story), [*story, (dish, name)], book)
                        wrong += 1
        self.assertGreater(wrong, 200)

    def test_steps_with_names_of_places(self):
        book = Book([Work([Step("pan", ["pot"]), Step("pot", ["pan"])], [("pan", "pot")])])
        self.wrong(0, [(0, "pot")], book)
        story_levels(book, [(0, "pan"), (0, "pot")])


if __name__ == "__main__":
    unittest.main()
