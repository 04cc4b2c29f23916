"""Points [2], [3] and [7]: pairedparts/partitions.py."""

import unittest

from pairedparts.partitions import count, is_partition, mirrored, partitions
from tests.checks import Checks
from tests.listing import ALL, EVERY, NOT_PARTITIONS, NUMBERS

COUNTED = range(101)


def counts_by_sizes(largest):
    """Return how many partitions each number up to largest has, by letting in one size after the other."""
    ways = [1] + [0] * largest
    for size in range(1, largest + 1):
        for number in range(size, largest + 1):
            ways[number] += ways[number - size]
    return ways


class IsPartitionTest(Checks):
    def test_example(self):
        self.assertIs(is_partition((3, 1, 1)), True)

    def test_every_partition_is_one(self):
        for partition in EVERY:
            with self.subTest(partition=partition):
                self.assertIs(is_partition(partition), True)

    def test_the_empty_tuple_is_one(self):
        self.assertIs(is_partition(()), True)

    def test_the_number_may_be_16_and_not_17(self):
        for partition in [(16,), (15, 1), (8, 8), (1,) * 16, (6, 5, 4, 1)]:
            self.assertIs(is_partition(partition), True)
            self.assertIs(is_partition((partition[0] + 1,) + partition[1:]), False)

    def test_other_values_are_none(self):
        for at, value in enumerate(NOT_PARTITIONS):
            with self.subTest(at=at):
                self.assertIs(is_partition(value), False)

    def test_a_list_stays_as_it_was(self):
        given = [3, 1]
        is_partition(given)
        self.assertEqual(given, [3, 1])


class PartitionsTest(Checks):
    def test_example(self):
        self.assertEqual(partitions(3), [(1, 1, 1), (2, 1), (3,)])

    def test_only_the_empty_tuple_for_0(self):
        self.assertEqual(partitions(0), [()])

    def test_all_of_them_ascending(self):
        for number in NUMBERS:
            with self.subTest(number=number):
                found = partitions(number)
                self.assertIs(type(found), list)
                self.assertEqual(found, ALL[number])
                self.assertEqual(found, sorted(found))
                self.assertEqual(len(found), count(number))

    def test_each_is_a_partition_of_the_number(self):
        for number in NUMBERS:
            for partition in partitions(number):
                self.assertIs(is_partition(partition), True)
                self.assert_partition(partition, number)

    def test_a_new_list_with_each_call(self):
        for number in NUMBERS:
            with self.subTest(number=number):
                first = partitions(number)
                second = partitions(number)
                self.assertIsNot(first, second)
                first.clear()
                second.append("more")
                self.assertEqual(partitions(number), ALL[number])

    def test_other_numbers_are_refused(self):
        self.assert_refuses_other_numbers(partitions, 0, 16)
        self.assert_leaves_lists_alone(partitions)

    def test_refused_numbers_change_nothing(self):
        with self.assertRaises(ValueError):
            partitions(17)
        self.assertEqual(partitions(4), ALL[4])


class CountTest(Checks):
    def test_example(self):
        self.assertEqual(count(10), 42)

    def test_by_sizes(self):
        self.assertEqual([count(number) for number in COUNTED], counts_by_sizes(100))

    def test_some_known_ones(self):
        self.assertEqual([count(number) for number in (0, 1, 2, 3, 4, 5)], [1, 1, 2, 3, 5, 7])
        self.assertEqual(count(16), 231)
        self.assertEqual(count(17), 297)
        self.assertEqual(count(100), 190569292)

    def test_by_the_rule(self):
        def known(number):
            return count(number) if number >= 0 else 0

        for number in range(1, 101):
            total = 0
            for k in range(1, 102):
                both = known(number - k * (3 * k - 1) // 2) + known(number - k * (3 * k + 1) // 2)
                total += both if k % 2 == 1 else -both
            with self.subTest(number=number):
                self.assertEqual(count(number), total)

    def test_an_integer_and_the_same_again(self):
        for number in COUNTED:
            self.assertIs(type(count(number)), int)
            self.assertEqual(count(number), count(number))

    def test_other_numbers_are_refused(self):
        self.assert_refuses_other_numbers(count, 0, 100)
        self.assert_leaves_lists_alone(count)


class MirroredTest(Checks):
    def test_examples(self):
        self.assertEqual(mirrored((3, 1)), (2, 1, 1))
        self.assertEqual(mirrored(()), ())
        self.assertEqual(mirrored((16,)), (1,) * 16)
        self.assertEqual(mirrored((1,) * 16), (16,))

    def test_by_the_words_of_the_point(self):
        for partition in EVERY:
            with self.subTest(partition=partition):
                found = mirrored(partition)
                self.assert_partition(found, sum(partition))
                self.assertEqual(len(found), partition[0] if partition else 0)
                for number, part in enumerate(found):
                    self.assertEqual(part, sum(other > number for other in partition))

    def test_twice_leads_back(self):
        for partition in EVERY:
            with self.subTest(partition=partition):
                self.assertEqual(mirrored(mirrored(partition)), partition)

    def test_other_values_are_refused(self):
        self.assert_refuses_what_is_no_partition(mirrored)
        self.assert_leaves_lists_alone(mirrored)


if __name__ == "__main__":
    unittest.main()
