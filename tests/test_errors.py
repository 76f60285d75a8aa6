"""The errors of the interface."""

import unittest

from lampwish.errors import LampError, NoMerge, NoSetting


class Errors(unittest.TestCase):
    def test_bases_are_as_told(self):
        self.assertEqual(LampError.__bases__, (ValueError,))
        self.assertEqual(NoMerge.__bases__, (LampError,))
        self.assertEqual(NoSetting.__bases__, (LampError,))

    def test_each_refusal_is_taken_by_its_bases(self):
        for error in (LampError, NoMerge, NoSetting):
            for base in (LampError, ValueError):
                with self.assertRaises(base):
                    raise error("refused")

    def test_one_refusal_is_not_the_other(self):
        self.assertFalse(issubclass(NoMerge, NoSetting))
        self.assertFalse(issubclass(NoSetting, NoMerge))
