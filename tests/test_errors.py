"""The interface's section loopwright/errors.py."""

import unittest

from helper import CLASSES
from loopwright import errors


class ErrorsTest(unittest.TestCase):
    def test_every_name_is_there(self):
        names = [kind.__name__ for kind in CLASSES]
        self.assertEqual(names, ["NoPlait", "NoRoom", "NoStep", "NoTable", "NoNumber", "BadNote"])

    def test_any_refusal_is_a_value_error(self):
        self.assertEqual(errors.PlaitError.__bases__, (ValueError,))

    def test_each_stands_under_plait_error_and_under_no_other(self):
        for kind in CLASSES:
            self.assertTrue(issubclass(kind, errors.PlaitError))
            self.assertTrue(issubclass(kind, ValueError))
            for other in CLASSES:
                self.assertEqual(issubclass(kind, other), kind is other)

    def test_each_is_taken_by_its_own_name(self):
        for kind in CLASSES:
            for name in (kind, errors.PlaitError, ValueError):
                with self.assertRaises(name):
                    raise kind("so")


if __name__ == "__main__":
    unittest.main()
