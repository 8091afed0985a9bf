"""The refusals, as classes."""

import unittest

from drivermatch import errors

WITH_AT = ("BadThing", "BadClaims", "BadHeld")
PLAIN = ("BadRoom", "BadNumbers", "NoThing", "NoHelper", "TooMany")
NAMES = WITH_AT + PLAIN + ("BadText",)


class Errors(unittest.TestCase):
    def test_match_error_is_a_value_error(self):
        self.assertEqual(errors.MatchError.__bases__, (ValueError,))
        self.assertIsInstance(errors.MatchError("why"), ValueError)

    def test_each_is_a_match_error_and_none_of_the_others(self):
        for name in NAMES:
            with self.subTest(name):
                self.assertEqual(getattr(errors, name).__bases__, (errors.MatchError,))
                for other in NAMES:
                    if other != name:
                        self.assertFalse(issubclass(getattr(errors, name), getattr(errors, other)))

    def test_each_is_defined_in_its_file(self):
        for name in NAMES + ("MatchError",):
            self.assertEqual(getattr(errors, name).__module__, "drivermatch.errors")

    def test_at_is_set_when_created(self):
        for name in WITH_AT:
            for at in (0, 6, 39):
                with self.subTest(name, at=at):
                    self.assertEqual(getattr(errors, name)(at).at, at)

    def test_line_is_set_when_created(self):
        for line in (0, 7):
            self.assertEqual(errors.BadText(line).line, line)

    def test_the_plain_ones_take_words_or_nothing(self):
        for name in PLAIN:
            with self.subTest(name):
                self.assertEqual(str(getattr(errors, name)("why")), "why")
                self.assertIsInstance(getattr(errors, name)(), errors.MatchError)
