"""The classes of refusals, as the interface lists them."""

import unittest

from shortring import errors
from tests.helpers import REFUSALS


class Refusals(unittest.TestCase):

    def test_any_refusal_is_a_value_error(self):
        self.assertEqual(errors.WebError.__bases__, (ValueError,))

    def test_each_stands_right_under_web_error(self):
        for name in REFUSALS:
            self.assertEqual(getattr(errors, name).__bases__, (errors.WebError,), name)

    def test_all_are_defined_in_their_file(self):
        for name in ("WebError", *REFUSALS):
            kind = getattr(errors, name)
            self.assertEqual((kind.__module__, kind.__name__), ("shortring.errors", name))

    def test_they_can_be_raised_with_a_message(self):
        for name in REFUSALS:
            with self.assertRaises(errors.WebError) as caught:
                raise getattr(errors, name)("why")
            self.assertEqual(str(caught.exception), "why")


if __name__ == "__main__":
    unittest.main()
