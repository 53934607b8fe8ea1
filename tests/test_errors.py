"""The interface's errors: which classes there are, and what each stands under."""

import unittest

from bedsheet.errors import NoSheet, NoStep, SheetError


class Errors(unittest.TestCase):
    def test_bases(self):
        self.assertEqual(SheetError.__bases__, (ValueError,))
        self.assertEqual(NoSheet.__bases__, (SheetError,))
        self.assertEqual(NoStep.__bases__, (SheetError,))

    def test_names(self):
        self.assertEqual([made.__name__ for made in (SheetError, NoSheet, NoStep)], ["SheetError", "NoSheet", "NoStep"])
        self.assertEqual({made.__module__ for made in (SheetError, NoSheet, NoStep)}, {"bedsheet.errors"})

    def test_one_refusal_is_not_taken_for_the_other(self):
        self.assertFalse(issubclass(NoSheet, NoStep))
        self.assertFalse(issubclass(NoStep, NoSheet))


if __name__ == "__main__":
    unittest.main()
