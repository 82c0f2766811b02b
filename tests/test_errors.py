"""[4]: the errors, their bases, and what they keep."""

import unittest

from plateways import errors

BY_WORD = ("InvalidStep", "InvalidWork", "InvalidKitchen", "InvalidBook")
BY_AT = ("InvalidText", "InvalidRow", "InvalidWay", "InvalidStory", "Refused")
THINGS = ("word", "", 0, -3, True, None, (), ("a", 1), ["a"], object(), ValueError("x"))


class ErrorsTest(unittest.TestCase):

    def keeps(self, error, attribute):
        for thing in THINGS:
            self.assertIs(getattr(error(thing), attribute), thing)
            self.assertIs(getattr(error(**{attribute: thing}), attribute), thing)
        with self.assertRaises(TypeError):
            error()
        with self.assertRaises(TypeError):
            error(1, 2)

    def test_base(self):
        self.assertEqual(errors.PlateError.__bases__, (ValueError,))

    def test_direct_subclasses(self):
        for name in (*BY_WORD, *BY_AT, "InvalidCommand"):
            self.assertEqual(getattr(errors, name).__bases__, (errors.PlateError,), name)
        known = {error.__name__ for error in errors.PlateError.__subclasses__()}
        self.assertEqual(known, {*BY_WORD, *BY_AT, "InvalidCommand"})

    def test_lookups(self):
        self.assertEqual(errors.NoStep.__bases__, (KeyError,))
        self.assertEqual(errors.NoPlace.__bases__, (KeyError,))
        self.assertEqual(errors.NoLimit.__bases__, (IndexError,))

    def test_words_are_kept(self):
        for name in BY_WORD:
            with self.subTest(name):
                self.keeps(getattr(errors, name), "word")

    def test_numbers_are_kept(self):
        for name in (*BY_AT, "NoLimit"):
            with self.subTest(name):
                self.keeps(getattr(errors, name), "at")

    def test_names_are_kept(self):
        for name in ("NoStep", "NoPlace"):
            with self.subTest(name):
                self.keeps(getattr(errors, name), "name")

    def test_command_keeps_nothing(self):
        self.assertEqual(vars(errors.InvalidCommand()), {})

    def test_a_kept_list_is_the_list_itself(self):
        kept = ["cut"]
        error = errors.NoStep(kept)
        kept.append("chop")
        self.assertEqual(error.name, ["cut", "chop"])

    def test_they_can_be_raised(self):
        for error in (errors.InvalidStep("name"), errors.InvalidCommand(), errors.NoPlace("pan"), errors.NoLimit(4)):
            with self.assertRaises(error.__class__) as caught:
                raise error
            self.assertIs(caught.exception, error)


if __name__ == "__main__":
    unittest.main()
