"""The error classes of the interface."""

import unittest

from holdshelf import errors

FIELDS = {"NoBook": "fault", "NoDeed": "number", "NoText": "line"}
PLAIN = ["NoPart", "NoTree", "NoLeaf", "Needed", "NoRow", "NoStand"]


class Errors(unittest.TestCase):
    def test_shelf_error_is_a_value_error(self):
        self.assertTrue(issubclass(errors.ShelfError, ValueError))

    def test_each_is_right_under_shelf_error(self):
        for name in [*FIELDS, *PLAIN]:
            self.assertEqual(getattr(errors, name).__bases__, (errors.ShelfError,), name)

    def test_none_is_under_another_one(self):
        for name in [*FIELDS, *PLAIN]:
            for other in [*FIELDS, *PLAIN]:
                under = issubclass(getattr(errors, name), getattr(errors, other))
                self.assertEqual(under, name == other, (name, other))

    def test_fields_are_set_when_created(self):
        for name, told in [("NoBook", ["shape", "names"]), ("NoDeed", [0, 7]), ("NoText", [0, 24])]:
            for value in told:
                made = getattr(errors, name)(value)
                self.assertEqual(getattr(made, FIELDS[name]), value)
                self.assertIn(str(value), str(made))

    def test_all_can_be_raised_and_caught(self):
        for name in PLAIN:
            with self.assertRaises(errors.ShelfError):
                raise getattr(errors, name)("why")
        for name in FIELDS:
            with self.assertRaises(errors.ShelfError):
                raise getattr(errors, name)(0)


if __name__ == "__main__":
    unittest.main()
