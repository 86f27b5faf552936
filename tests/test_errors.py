"""The errors of the interface."""

import unittest

from bagtree import errors
from bagtree.errors import BadCount, BadLayout, BadThicket, BadWeb, BagError

BELOW = (BadWeb, BadCount, BadLayout, BadThicket)


class TestErrors(unittest.TestCase):
    def test_any_refusal_is_a_value_error(self):
        self.assertTrue(issubclass(BagError, ValueError))

    def test_each_stands_straight_under_bag_error(self):
        for error in BELOW:
            with self.subTest(error=error.__name__):
                self.assertEqual(error.__bases__, (BagError,))

    def test_none_stands_under_another_one(self):
        self.assertEqual(len(set(BELOW)), 4)
        for one in BELOW:
            for other in BELOW:
                if one is not other:
                    with self.subTest(one=one.__name__, other=other.__name__):
                        self.assertFalse(issubclass(one, other))

    def test_each_can_be_raised_and_caught_by_its_name(self):
        for error in BELOW + (BagError,):
            with self.subTest(error=error.__name__):
                with self.assertRaises(error):
                    raise error("why")
                with self.assertRaises(BagError):
                    raise error("why")
                with self.assertRaises(ValueError):
                    raise error("why")

    def test_each_is_defined_in_its_file_under_its_name(self):
        for name in ("BagError", "BadWeb", "BadCount", "BadLayout", "BadThicket"):
            with self.subTest(name=name):
                error = getattr(errors, name)
                self.assertEqual((error.__name__, error.__module__), (name, "bagtree.errors"))


if __name__ == "__main__":
    unittest.main()
