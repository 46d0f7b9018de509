"""The error classes of the interface."""

import unittest

from waypapers import errors


class ErrorsTest(unittest.TestCase):
    def test_base_class_is_a_value_error(self):
        self.assertEqual(errors.WaypapersError.__bases__, (ValueError,))

    def test_classes_without_attributes(self):
        for name in ("InvalidMap", "InvalidQuestion", "NothingToUndo", "NothingToRedo"):
            with self.subTest(name=name):
                error = getattr(errors, name)
                self.assertEqual(error.__bases__, (errors.WaypapersError,))
                self.assertIsInstance(error("why"), ValueError)

    def test_classes_with_one_attribute(self):
        told = {
            "UnknownName": ("name", "inn"),
            "InvalidRoute": ("number", 3),
            "InvalidSet": ("number", 0),
            "Conflict": ("things", [("place", "inn"), ("bar", "a", "b")]),
            "UnknownVersion": ("number", 7),
            "InvalidNotation": ("line", 1),
            "InvalidPaper": ("line", 2),
            "NameInUse": ("name", "pier"),
        }
        for name, (attribute, value) in told.items():
            with self.subTest(name=name):
                error = getattr(errors, name)
                self.assertEqual(error.__bases__, (errors.WaypapersError,))
                self.assertEqual(vars(error(value)), {attribute: value})

    def test_conflict_copies_its_things(self):
        things = [("place", "inn")]
        error = errors.Conflict(things)
        things.append(("place", "pier"))
        self.assertEqual(error.things, [("place", "inn")])


if __name__ == "__main__":
    unittest.main()
