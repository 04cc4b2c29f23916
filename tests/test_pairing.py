"""Point [4]: pairedparts/pairing.py."""

import unittest

from pairedparts.errors import NotDifferent, NotOdd
from pairedparts.pairing import is_different, is_odd, to_different, to_odd
from pairedparts.partitions import partitions
from tests.checks import Checks
from tests.listing import (
    DIFFERENT, EVERY, EVERY_DIFFERENT, EVERY_NOT_DIFFERENT, EVERY_NOT_ODD, EVERY_ODD, NUMBERS, ODD, descending,
)


def by_powers(partition):
    """Return the different partition of an odd one, by the powers of 2 that add up to how often a part stands."""
    parts = []
    for size in set(partition):
        many = partition.count(size)
        parts.extend(size * 2 ** power for power in range(5) if many >> power & 1)
    return descending(parts)


def by_halving(partition):
    """Return the odd partition of a different one, by halving the first even part again and again."""
    parts = list(partition)
    while any(part % 2 == 0 for part in parts):
        half = parts.pop(next(at for at, part in enumerate(parts) if part % 2 == 0)) // 2
        parts += [half, half]
    return descending(parts)


class IsOddTest(Checks):
    def test_every_partition(self):
        for partition in EVERY:
            with self.subTest(partition=partition):
                self.assertIs(is_odd(partition), partition in EVERY_ODD)

    def test_examples(self):
        self.assertIs(is_odd(()), True)
        self.assertIs(is_odd((3, 1, 1)), True)
        self.assertIs(is_odd((3, 2, 1)), False)
        self.assertIs(is_odd((16,)), False)

    def test_other_values_are_refused(self):
        self.assert_refuses_what_is_no_partition(is_odd)
        self.assert_leaves_lists_alone(is_odd)


class IsDifferentTest(Checks):
    def test_every_partition(self):
        for partition in EVERY:
            with self.subTest(partition=partition):
                self.assertIs(is_different(partition), partition in EVERY_DIFFERENT)

    def test_examples(self):
        self.assertIs(is_different((3, 1, 1)), False)
        self.assertIs(is_different(()), True)
        self.assertIs(is_different((3, 2, 1)), True)

    def test_other_values_are_refused(self):
        self.assert_refuses_what_is_no_partition(is_different)
        self.assert_leaves_lists_alone(is_different)


class ToDifferentTest(Checks):
    def test_examples(self):
        self.assertEqual(to_different((3, 1, 1, 1)), (3, 2, 1))
        self.assertEqual(to_different(()), ())
        self.assertEqual(to_different((1,) * 16), (16,))
        self.assertEqual(to_different((1,) * 15), (8, 4, 2, 1))
        self.assertEqual(to_different((3, 3, 3, 3, 1, 1, 1, 1)), (12, 4))

    def test_every_odd_partition(self):
        for partition in EVERY_ODD:
            with self.subTest(partition=partition):
                found = to_different(partition)
                self.assert_partition(found, sum(partition))
                self.assertIs(is_different(found), True)
                self.assertEqual(found, by_powers(partition))

    def test_leads_back(self):
        for partition in EVERY_ODD:
            with self.subTest(partition=partition):
                self.assertEqual(to_odd(to_different(partition)), partition)

    def test_the_others_are_not_odd(self):
        for partition in EVERY_NOT_ODD:
            with self.subTest(partition=partition):
                self.assert_raises_just(NotOdd, to_different, partition)

    def test_other_values_are_refused_first(self):
        self.assert_refuses_what_is_no_partition(to_different)
        self.assert_leaves_lists_alone(to_different)


class ToOddTest(Checks):
    def test_examples(self):
        self.assertEqual(to_odd((3, 2, 1)), (3, 1, 1, 1))
        self.assertEqual(to_odd(()), ())
        self.assertEqual(to_odd((16,)), (1,) * 16)
        self.assertEqual(to_odd((12, 4)), (3, 3, 3, 3, 1, 1, 1, 1))

    def test_every_different_partition(self):
        for partition in EVERY_DIFFERENT:
            with self.subTest(partition=partition):
                found = to_odd(partition)
                self.assert_partition(found, sum(partition))
                self.assertIs(is_odd(found), True)
                self.assertEqual(found, by_halving(partition))

    def test_leads_back(self):
        for partition in EVERY_DIFFERENT:
            with self.subTest(partition=partition):
                self.assertEqual(to_different(to_odd(partition)), partition)

    def test_the_others_are_not_different(self):
        for partition in EVERY_NOT_DIFFERENT:
            with self.subTest(partition=partition):
                self.assert_raises_just(NotDifferent, to_odd, partition)

    def test_other_values_are_refused_first(self):
        self.assert_refuses_what_is_no_partition(to_odd)
        self.assert_leaves_lists_alone(to_odd)


class PairsTest(Checks):
    def test_as_many_odd_as_different_ones(self):
        for number in NUMBERS:
            with self.subTest(number=number):
                odd = [partition for partition in partitions(number) if is_odd(partition)]
                different = [partition for partition in partitions(number) if is_different(partition)]
                self.assertEqual(odd, ODD[number])
                self.assertEqual(different, DIFFERENT[number])
                self.assertEqual(len(odd), len(different))
                self.assertEqual(sorted(to_different(partition) for partition in odd), different)
                self.assertEqual(sorted(to_odd(partition) for partition in different), odd)


if __name__ == "__main__":
    unittest.main()
