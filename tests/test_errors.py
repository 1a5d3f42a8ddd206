"""The error classes: each straight under CreelError, and each `at` a field."""

import inspect
import unittest

from creelway import errors

WITHOUT_AT = (
    "TooMany", "BadCreel", "BadNumber", "TooNear", "Bare", "BadName", "Taken", "Full", "NoRoad", "Laid",
    "NoStone", "NoEntry", "NotWalk", "NothingLeft",
)
WITH_AT = ("BadRow", "BadTrains", "BadSizes", "Clash", "BadText")


class ErrorsTest(unittest.TestCase):
    def test_any_refusal_stands_straight_under_value_error(self):
        self.assertEqual(errors.CreelError.__bases__, (ValueError,))

    def test_each_class_stands_straight_under_creel_error(self):
        for name in WITHOUT_AT + WITH_AT:
            with self.subTest(name):
                self.assertEqual(getattr(errors, name).__bases__, (errors.CreelError,))
                self.assertEqual(getattr(errors, name).__name__, name)

    def test_no_other_class_is_there(self):
        found = [name for name, thing in vars(errors).items() if inspect.isclass(thing)]
        self.assertEqual(sorted(found), sorted(("CreelError",) + WITHOUT_AT + WITH_AT))

    def test_at_is_a_field_set_when_it_is_made(self):
        for name in WITH_AT:
            for at in (0, 7):
                with self.subTest(name, at=at):
                    self.assertEqual(vars(getattr(errors, name)(at))["at"], at)
                    self.assertEqual(getattr(errors, name)(at=at).at, at)

    def test_at_is_asked_for_where_it_is_a_field(self):
        for name in WITH_AT:
            with self.subTest(name), self.assertRaises(TypeError):
                getattr(errors, name)()

    def test_the_others_have_no_at(self):
        for name in WITHOUT_AT:
            with self.subTest(name):
                self.assertFalse(hasattr(getattr(errors, name)(), "at"))

    def test_word_is_the_name_of_the_class(self):
        for name in ("CreelError",) + WITHOUT_AT:
            for made in (getattr(errors, name)(), getattr(errors, name)("why")):
                with self.subTest(name):
                    self.assertEqual(vars(made)["word"], name)
        for name in WITH_AT:
            with self.subTest(name):
                self.assertEqual(vars(getattr(errors, name)(3))["word"], name)

    def test_its_own_words_are_its_text(self):
        self.assertEqual(str(errors.TooMany("why")), "why")
        for name in WITH_AT:
            self.assertIn("3", str(getattr(errors, name)(3)))

    def test_each_is_taken_as_creel_error_and_as_value_error(self):
        for name in WITHOUT_AT:
            for above in (errors.CreelError, ValueError):
                with self.subTest(name, above=above), self.assertRaises(above):
                    raise getattr(errors, name)()
        for name in WITH_AT:
            for above in (errors.CreelError, ValueError):
                with self.subTest(name, above=above), self.assertRaises(above):
                    raise getattr(errors, name)(3)


if __name__ == "__main__":
    unittest.main()
