"""What several test files check in the same way."""

import unittest

from pairedparts.errors import InvalidNumber, InvalidPartition
from pairedparts.partitions import is_partition
from tests.listing import NOT_PARTITIONS, wrong_numbers


class Checks(unittest.TestCase):
    def assert_raises_just(self, error, function, *arguments, told=None):
        """Check that the call raises an error of this very class."""
        with self.assertRaises(error, msg=told) as caught:
            function(*arguments)
        self.assertIs(type(caught.exception), error, told)

    # These two stop at the first value that is not refused: a function that takes wrong values may never end.

    def assert_refuses_what_is_no_partition(self, function):
        for at, value in enumerate(NOT_PARTITIONS):
            told = f"{function.__name__} with value {at} of NOT_PARTITIONS"
            self.assertIs(is_partition(value), False, told)
            self.assert_raises_just(InvalidPartition, function, value, told=told)

    def assert_refuses_other_numbers(self, function, least, most):
        for at, value in enumerate(wrong_numbers(least, most)):
            told = f"{function.__name__} with value {at} of wrong_numbers({least}, {most})"
            self.assert_raises_just(InvalidNumber, function, value, told=told)

    def assert_leaves_lists_alone(self, function):
        """Check that a list that the function refuses is as it was."""
        given = [3, [1], 2]
        with self.assertRaises(ValueError):
            function(given)
        self.assertEqual(given, [3, [1], 2])

    def assert_partition(self, value, number):
        """Check that value is a plain partition of number."""
        self.assertIs(type(value), tuple)
        self.assertEqual([type(part) for part in value], [int] * len(value))
        self.assertEqual(sum(value), number)
        self.assertEqual(value, tuple(sorted(value, reverse=True)))
        self.assertTrue(all(part > 0 for part in value))
