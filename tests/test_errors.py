"""The refusals: their classes, and what each is under."""

import unittest

from changeview import errors

REFUSALS = ("BadView", "NoTable", "NoView", "BadRow", "Lacking", "Full")


class Classes(unittest.TestCase):
    def test_any_refusal_is_a_value_error(self):
        self.assertEqual(errors.ChangeError.__bases__, (ValueError,))

    def test_each_refusal_is_straight_under_change_error(self):
        for name in REFUSALS:
            with self.subTest(name=name):
                self.assertEqual(getattr(errors, name).__bases__, (errors.ChangeError,))

    def test_no_refusal_is_under_another_one(self):
        for name in REFUSALS:
            for other in REFUSALS:
                with self.subTest(name=name, other=other):
                    under = issubclass(getattr(errors, name), getattr(errors, other))
                    self.assertEqual(under, name == other)

    def test_each_class_has_its_own_name_and_is_defined_here(self):
        for name in REFUSALS + ("ChangeError",):
            with self.subTest(name=name):
                self.assertEqual(getattr(errors, name).__name__, name)
                self.assertEqual(getattr(errors, name).__module__, "changeview.errors")

    def test_there_are_no_other_refusals(self):
        found = sorted(cls.__name__ for cls in errors.ChangeError.__subclasses__())
        self.assertEqual(found, sorted(REFUSALS))


class Raised(unittest.TestCase):
    def test_each_is_caught_by_its_name_by_change_error_and_as_value_error(self):
        for name in REFUSALS:
            refusal = getattr(errors, name)
            for caught in (refusal, errors.ChangeError, ValueError):
                with self.subTest(name=name, caught=caught.__name__):
                    with self.assertRaises(caught) as told:
                        raise refusal("why so")
                    self.assertIs(type(told.exception), refusal)
                    self.assertEqual(str(told.exception), "why so")

    def test_change_error_itself_is_none_of_the_six(self):
        for name in REFUSALS:
            with self.subTest(name=name):
                self.assertNotIsInstance(errors.ChangeError("why so"), getattr(errors, name))


if __name__ == "__main__":
    unittest.main()
