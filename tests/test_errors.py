"""The refusals: formlines.errors."""

import unittest

from formlines import errors

NAMES = ("NoTable", "NoForm", "NoRule", "Ring", "NoPaper", "NoYear", "NoLine", "NoChoice", "TooMany")


class TestErrors(unittest.TestCase):
    def test_form_error_stands_straight_under_value_error(self):
        self.assertEqual(errors.FormError.__bases__, (ValueError,))

    def test_each_refusal_stands_straight_under_form_error(self):
        for name in NAMES:
            with self.subTest(name=name):
                self.assertEqual(getattr(errors, name).__bases__, (errors.FormError,))

    def test_each_class_has_its_name_and_is_defined_in_the_file(self):
        for name in NAMES + ("FormError",):
            with self.subTest(name=name):
                refusal = getattr(errors, name)
                self.assertEqual(refusal.__name__, name)
                self.assertEqual(refusal.__module__, "formlines.errors")

    def test_each_refusal_is_raised_and_caught_by_each_name(self):
        for name in NAMES:
            refusal = getattr(errors, name)
            for caught in (refusal, errors.FormError, ValueError):
                with self.subTest(name=name, caught=caught.__name__):
                    with self.assertRaises(caught):
                        raise refusal("why")
                    with self.assertRaises(caught):
                        raise refusal()

    def test_no_refusal_is_caught_as_another_one(self):
        for name in NAMES:
            for other in NAMES:
                if name != other:
                    with self.subTest(name=name, other=other):
                        self.assertFalse(issubclass(getattr(errors, name), getattr(errors, other)))

    def test_a_refusal_is_a_form_error_but_not_the_other_way_round(self):
        for name in NAMES:
            with self.subTest(name=name):
                self.assertFalse(issubclass(errors.FormError, getattr(errors, name)))
        self.assertFalse(issubclass(ValueError, errors.FormError))


if __name__ == "__main__":
    unittest.main()
