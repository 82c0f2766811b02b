"""Stories: what happens while dishes are made, any number of them by each recipe of a book."""

from plateways.basics import is_number, is_sequence
from plateways.books import step_in
from plateways.cooking import levels_by_turns, levels_told, reached_from
from plateways.errors import InvalidStory
from plateways.works import is_beginning


def story_levels(book, story):
    """All traces, their places and their levels behind the story."""
    return levels_told(levels_by_turns(book, steps_of_story(book, story))[-1])


def story_reached(book, story):
    """The numbers of the limits that were reached in the story."""
    return reached_from(book, steps_of_story(book, story), 0)


def steps_of_story(book, value):
    """The steps of any value as a story; raises InvalidStory if it is none."""
    if not is_sequence(value):
        raise InvalidStory(0)
    rows, steps = [], []
    for at, turn in enumerate(value):
        if not is_turn(turn) or turn[0] > len(rows):
            raise InvalidStory(at)
        dish, name = turn
        if dish == len(rows):
            rows.append(())
        rows[dish] = (*rows[dish], name)
        # No two works have a step in common, so only the work of the dish can begin so.
        if not any([is_beginning(work, rows[dish]) for work in book.works]):
            raise InvalidStory(at)
        steps.append(step_in(book.works, name))
    return steps


def is_turn(value):
    """Whether any value is a pair of a number and some other thing."""
    return isinstance(value, tuple) and len(value) == 2 and is_number(value[0])
