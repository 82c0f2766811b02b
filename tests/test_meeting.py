"""[18]: traces that meet."""

import unittest

from examples import cooked_plainly, fenced_example, kitchen_example, some_kitchens, thick_kitchens
from plateways.cooking import levels, met
from plateways.kitchens import Kitchen
from plateways.meeting import best_rows, meeting, meets
from plateways.steps import Step
from plateways.works import Work, is_beginning

NAMES = ("nut", "egg", "soy", "moth")


def kitchen_of(*lines):
    return Kitchen.read("\n".join(lines))


def places_of_both(now, one, other):
    return [place for trace, place in now if trace == one and (other, place) in now]


class MeetingTest(unittest.TestCase):

    def holds(self, kitchen, one, other, value, many):
        """Whether a meeting is one, and has as many steps."""
        self.assertIs(value.__class__, tuple)
        self.assertEqual(len(value), 2)
        beginning, place = value
        self.assertTrue(is_beginning(kitchen.work, beginning))
        self.assertEqual(len(beginning), many, f"{kitchen}\n{one} {other} {value}")
        there = [trace for trace, spot, level in levels(kitchen, beginning) if spot == place and level >= 1]
        self.assertTrue(one in there and other in there, f"{kitchen}\n{one} {other} {value}")
        self.assertIn((*sorted((one, other)), place), met(kitchen, beginning))

    def test_the_example(self):
        kitchen = kitchen_example()
        self.assertIs(meets(kitchen, "nut", "egg"), True)
        self.assertEqual(meeting(kitchen, "nut", "egg"), (("chop", "toss"), "bowl"))
        self.assertEqual(meeting(kitchen, "egg", "nut"), (("chop", "toss"), "bowl"))
        self.assertIs(meets(kitchen.with_work(fenced_example()), "nut", "egg"), True)

    def test_against_all_orders(self):
        lengths = []
        for kitchen in [*some_kitchens(600, 120), *thick_kitchens(600, 900)]:
            behind = cooked_plainly(kitchen)
            for one in NAMES:
                for other in NAMES:
                    if one != other:
                        known = [row for row, now in behind.items() if places_of_both(now, one, other)]
                        value = meeting(kitchen, one, other)
                        self.assertIs(meets(kitchen, one, other), bool(known), str(kitchen))
                        if known:
                            self.holds(kitchen, one, other, value, min(map(len, known)))
                            lengths.append(len(value[0]))
                        else:
                            self.assertIsNone(value)
                            lengths.append(-1)
        for many in (-1, 0, 1, 2, 3):
            self.assertGreater(lengths.count(many), 4, many)

    def test_works_of_more_steps(self):
        for kitchen in thick_kitchens(601, 8, 7):
            known = [len(row) for row, now in cooked_plainly(kitchen).items() if places_of_both(now, "nut", "egg")]
            value = meeting(kitchen, "nut", "egg")
            self.assertIs(value is not None, bool(known))
            if known:
                self.holds(kitchen, "nut", "egg", value, min(known))

    def test_at_one_place_at_first(self):
        kitchen = kitchen_of("wash at a", "trace nut a 3", "trace egg b 1", "trace egg a 1", "trace nut c 2")
        self.assertEqual(meeting(kitchen, "nut", "egg"), ((), "a"))
        kitchen = kitchen_of("wash at a", "trace nut moon 3", "trace egg moon 1")
        self.assertEqual(meeting(kitchen, "egg", "nut"), ((), "moon"))

    def test_one_step_brings_both(self):
        kitchen = kitchen_of("mix at a b c go a c 0, b c 0", "trace nut a 3", "trace egg b 1")
        self.assertEqual(meeting(kitchen, "nut", "egg"), (("mix",), "c"))

    def test_one_step_brings_the_one_and_leaves_the_other(self):
        kitchen = kitchen_of("add at a b go a b 0, b b 0", "trace nut a 3", "trace egg b 1")
        self.assertEqual(meeting(kitchen, "nut", "egg"), (("add",), "b"))
        kitchen = kitchen_of("add at a b go a b 0", "trace nut a 3", "trace egg b 1")
        self.assertIs(meets(kitchen, "nut", "egg"), False)
        self.assertIsNone(meeting(kitchen, "nut", "egg"))

    def test_washed_away_between(self):
        lines = ["add at a b go a b 0, b b 0", "wash at b", "dip at b c go c b 0, b b 0", "trace nut a 3", "trace egg c 1"]
        self.assertIs(meets(kitchen_of(*lines), "nut", "egg"), True)
        fences = ["ahead add wash", "ahead wash dip"]
        self.assertIs(meets(kitchen_of(*lines[:3], *fences, *lines[3:]), "nut", "egg"), False)
        fences = ["ahead add dip", "ahead wash dip"]
        value = meeting(kitchen_of(*lines[:3], *fences, *lines[3:]), "nut", "egg")
        self.assertEqual(value, (("wash", "add", "dip"), "b"))

    def test_levels_that_are_lost(self):
        for less, known in ((0, True), (2, True), (3, False), (9, False)):
            kitchen = kitchen_of(f"mix at a b c go a c {less}, b c 0", "trace nut a 3", "trace egg b 1")
            self.assertIs(meets(kitchen, "nut", "egg"), known)

    def test_levels_of_both_by_one_order(self):
        # Behind a, b the nut has 5 and the egg 2; behind b, a it is the other way round. Which is needed shows later.
        lines = ["a at p q r s t u v w go p r 0, t s 0, q u 3, w v 0", "b at p q r s t u v w go r s 0, p t 3, u v 0, q w 0"]
        for less, fewer, row in ((3, 0, ("a", "b", "mix")), (0, 3, ("b", "a", "mix")), (4, 1, ("a", "b", "mix")), (3, 3, None)):
            kitchen = kitchen_of(*lines, f"mix at s v z go s z {less}, v z {fewer}", "trace nut p 5", "trace egg q 5")
            self.assertEqual(meeting(kitchen, "nut", "egg"), None if row is None else (row, "z"))
            self.assertIs(meets(kitchen, "egg", "nut"), row is not None)

    def test_only_the_best_levels_are_kept(self):
        rows = [(5, 2, "a"), (2, 5, "b"), (2, 4, "c"), (5, 2, "d"), (4, 4, "e"), (3, 4, "f"), (6, 1, "g"), (6, 2, "h")]
        self.assertEqual(sorted(best_rows(rows)), [(2, 5, "b"), (4, 4, "e"), (6, 2, "h")])
        self.assertEqual([row[2] for row in best_rows([(1, 1, "a"), (1, 1, "b")])], ["a"])
        self.assertEqual(best_rows([]), [])

    def test_traces_that_are_nowhere(self):
        kitchen = kitchen_example()
        for one, other in (("nut", "soy"), ("soy", "nut"), ("soy", "moth")):
            self.assertIs(meets(kitchen, one, other), False)
            self.assertIsNone(meeting(kitchen, one, other))

    def test_limits_do_not_matter(self):
        kitchen = kitchen_example()
        self.assertEqual(meeting(Kitchen(kitchen.work, kitchen.traces), "nut", "egg"), meeting(kitchen, "nut", "egg"))

    def test_sizes(self):
        places = ["p", "q", "r", "s"]
        for many in (7, 9):
            steps = [Step("abcdefghi"[at], places, [("p", "p", at), ("p", "q", 2 * at + 1), ("q", "p", 3), ("q", "q", 11 - at),
                                                    ("r", "r", 5 - at % 3), ("r", "p" if at == 6 else "s", 4)]) for at in range(many)]
            kitchen = Kitchen(Work(steps), [("nut", "p", 900), ("nut", "q", 950), ("egg", "r", 800)])
            self.holds(kitchen, "nut", "egg", meeting(kitchen, "nut", "egg"), 1)
            late = Kitchen(Work(steps, [(name, "g") for name in "abcdef"]), kitchen.traces)
            self.holds(late, "nut", "egg", meeting(late, "nut", "egg"), 7)
            thin = Kitchen(late.work, [("nut", "p", 900), ("egg", "r", 20)])
            self.assertIs(meets(thin, "nut", "egg"), False)


if __name__ == "__main__":
    unittest.main()
