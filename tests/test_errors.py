"""Promise 1.1."""

import unittest

from pourparler import errors


class ErrorsTest(unittest.TestCase):
    def test_refused_is_a_value_error(self):
        self.assertEqual(errors.Refused.__bases__, (ValueError,))

    def test_each_class_is_a_direct_subclass(self):
        for name in ("Malformed", "Unknown", "Clashing", "Oversized", "Misused", "Mistaken"):
            with self.subTest(name):
                self.assertEqual(getattr(errors, name).__bases__, (errors.Refused,))

    def test_fields_by_position(self):
        self.assertEqual(errors.Malformed(7).at, 7)
        self.assertEqual(errors.Unknown("x").name, "x")
        self.assertEqual(errors.Clashing("y").name, "y")
        self.assertEqual(errors.Oversized("text").limit, "text")
        self.assertEqual(errors.Misused("ready").why, "ready")
        mistaken = errors.Mistaken(3, "twice")
        self.assertEqual((mistaken.at, mistaken.why), (3, "twice"))

    def test_fields_by_name(self):
        self.assertEqual(errors.Malformed(at=0).at, 0)
        self.assertEqual(errors.Unknown(name="x").name, "x")
        self.assertEqual(errors.Clashing(name="y").name, "y")
        self.assertEqual(errors.Oversized(limit="depth").limit, "depth")
        self.assertEqual(errors.Misused(why="side").why, "side")
        mistaken = errors.Mistaken(why="fit", at=0)
        self.assertEqual((mistaken.at, mistaken.why), (0, "fit"))

    def test_caught_as_refused(self):
        with self.assertRaises(errors.Refused):
            raise errors.Mistaken(1, "main")


if __name__ == "__main__":
    unittest.main()
