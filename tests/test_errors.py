"""The interface's pairedparts/errors.py."""

import unittest

from pairedparts import errors
from pairedparts.errors import PartError

NAMES = [
    "InvalidPartition", "InvalidNumber", "NotOdd", "NotDifferent", "NoPartner", "NotOwnMirror", "InvalidSplit",
    "NoRank", "TooLarge", "NotThere", "NothingToUndo", "ParseError",
]


class ErrorsTest(unittest.TestCase):
    def test_part_error_is_a_value_error(self):
        self.assertEqual(PartError.__bases__, (ValueError,))
        self.assertEqual(PartError.__module__, "pairedparts.errors")

    def test_each_of_the_twelve_is_a_direct_subclass_of_part_error(self):
        for name in NAMES:
            with self.subTest(name=name):
                error = getattr(errors, name)
                self.assertEqual(error.__bases__, (PartError,))
                self.assertEqual(error.__name__, name)
                self.assertEqual(error.__module__, "pairedparts.errors")

    def test_none_of_the_twelve_inherits_from_another_one(self):
        for name in NAMES:
            for other in NAMES:
                if name != other:
                    with self.subTest(name=name, other=other):
                        self.assertFalse(issubclass(getattr(errors, name), getattr(errors, other)))

    def test_part_error_has_no_other_direct_subclass(self):
        self.assertEqual(sorted(error.__name__ for error in PartError.__subclasses__()), sorted(NAMES))

    def test_each_can_be_raised_with_a_message_and_caught_as_the_base_class(self):
        for name in NAMES:
            with self.subTest(name=name):
                with self.assertRaises(PartError) as caught:
                    raise getattr(errors, name)("why")
                self.assertEqual(str(caught.exception), "why")


if __name__ == "__main__":
    unittest.main()
