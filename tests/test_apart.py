"""Points [10] and [11]: pairedparts/apart.py."""

import unittest

from pairedparts.apart import count_apart, keeps_apart, rank, rank_counts
from pairedparts.errors import InvalidNumber, NoRank
from pairedparts.partitions import mirrored
from tests.checks import Checks
from tests.listing import ALL, EVERY, NUMBERS, wrong_numbers


def apart_by_the_words(partition):
    return not any(partition[at] < partition[at + 1] + 2 for at in range(len(partition) - 1))


def with_remainders(number, remainders):
    """Return the partitions of number whose parts all leave one of these remainders when divided by 5."""
    return [partition for partition in ALL[number] if all(part % 5 in remainders for part in partition)]


def counts_by_the_words(number, divisor):
    ranks = [partition[0] - len(partition) for partition in ALL[number]]
    # A rank leaves the remainder r if r and a multiple of the divisor add up to it.
    reach = range(-20 * divisor, 20 * divisor, divisor)
    return [sum(value in [r + multiple for multiple in reach] for value in ranks) for r in range(divisor)]


class KeepsApartTest(Checks):
    def test_examples(self):
        self.assertIs(keeps_apart((4, 2)), True)
        self.assertIs(keeps_apart(()), True)
        self.assertIs(keeps_apart((1,)), True)
        self.assertIs(keeps_apart((4, 3)), False)
        self.assertIs(keeps_apart((2, 2)), False)
        self.assertIs(keeps_apart((7, 5, 3, 1)), True)
        self.assertIs(keeps_apart((7, 5, 2, 1)), False)
        self.assertIs(keeps_apart((6, 5, 3, 1)), False)

    def test_every_partition(self):
        for partition in EVERY:
            with self.subTest(partition=partition):
                self.assertIs(keeps_apart(partition), apart_by_the_words(partition))

    def test_other_values_are_refused(self):
        self.assert_refuses_what_is_no_partition(keeps_apart)
        self.assert_leaves_lists_alone(keeps_apart)


class CountApartTest(Checks):
    def test_examples(self):
        self.assertEqual(count_apart(6, 1), 3)
        self.assertEqual(count_apart(6, 2), 2)
        self.assertEqual([count_apart(number, 1) for number in (0, 1, 2, 3, 4)], [1, 1, 1, 1, 2])
        self.assertEqual([count_apart(number, 2) for number in (0, 1, 2, 3, 4)], [1, 0, 1, 1, 1])

    def test_against_all_partitions(self):
        for number in NUMBERS:
            with self.subTest(number=number):
                apart = [partition for partition in ALL[number] if apart_by_the_words(partition)]
                self.assertEqual(count_apart(number, 1), len(apart))
                self.assertEqual(count_apart(number, 2), len([parts for parts in apart if 1 not in parts]))
                self.assertIs(type(count_apart(number, 1)), int)
                self.assertIs(type(count_apart(number, 2)), int)

    def test_against_the_remainders(self):
        for number in NUMBERS:
            with self.subTest(number=number):
                self.assertEqual(count_apart(number, 1), len(with_remainders(number, (1, 4))))
                self.assertEqual(count_apart(number, 2), len(with_remainders(number, (2, 3))))

    def test_other_numbers_are_refused(self):
        self.assert_refuses_other_numbers(lambda value: count_apart(value, 1), 0, 16)
        self.assert_refuses_other_numbers(lambda value: count_apart(value, 2), 0, 16)
        self.assert_leaves_lists_alone(lambda value: count_apart(value, 1))

    def test_other_least_parts_are_refused(self):
        for number in (0, 6, 16):
            self.assert_refuses_other_numbers(lambda value, number=number: count_apart(number, value), 1, 2)
        self.assert_leaves_lists_alone(lambda value: count_apart(6, value))

    def test_both_wrong(self):
        for number in wrong_numbers(0, 16):
            for least in wrong_numbers(1, 2):
                self.assert_raises_just(InvalidNumber, count_apart, number, least)


class RankTest(Checks):
    def test_examples(self):
        self.assertEqual(rank((4, 2, 1)), 1)
        self.assertEqual(rank((16,)), 15)
        self.assertEqual(rank((1,) * 16), -15)
        self.assertEqual(rank((1,)), 0)

    def test_every_partition(self):
        for partition in EVERY:
            if partition:
                with self.subTest(partition=partition):
                    self.assertIs(type(rank(partition)), int)
                    self.assertEqual(rank(partition), max(partition) - len(partition))

    def test_the_mirrored_ones_have_the_negatives(self):
        for partition in EVERY:
            if partition:
                with self.subTest(partition=partition):
                    self.assertEqual(rank(mirrored(partition)), -rank(partition))

    def test_the_empty_one_has_none(self):
        self.assert_raises_just(NoRank, rank, ())

    def test_other_values_are_refused_first(self):
        self.assert_refuses_what_is_no_partition(rank)
        self.assert_leaves_lists_alone(rank)


class RankCountsTest(Checks):
    def test_examples(self):
        self.assertEqual(rank_counts(4, 5), [1, 1, 1, 1, 1])
        self.assertEqual(rank_counts(4, 1), [5])
        self.assertEqual(rank_counts(1, 3), [1, 0, 0])
        # The ranks of (2,) and (1, 1) are 1 and -1.
        self.assertEqual(rank_counts(2, 4), [0, 1, 0, 1])

    def test_against_all_partitions(self):
        for number in range(1, 17):
            for divisor in range(1, 17):
                with self.subTest(number=number, divisor=divisor):
                    found = rank_counts(number, divisor)
                    self.assertIs(type(found), list)
                    self.assertEqual(found, counts_by_the_words(number, divisor))
                    self.assertEqual([type(many) for many in found], [int] * divisor)
                    self.assertEqual(sum(found), len(ALL[number]))

    def test_equally_many(self):
        for numbers, divisor in [((4, 9, 14), 5), ((5, 12), 7)]:
            for number in numbers:
                with self.subTest(number=number, divisor=divisor):
                    self.assertEqual(rank_counts(number, divisor), [len(ALL[number]) // divisor] * divisor)

    def test_a_new_list_with_each_call(self):
        first = rank_counts(4, 5)
        second = rank_counts(4, 5)
        self.assertIsNot(first, second)
        first.clear()
        second[0] = 7
        self.assertEqual(rank_counts(4, 5), [1, 1, 1, 1, 1])

    def test_other_numbers_are_refused(self):
        for divisor in (1, 5, 16):
            self.assert_refuses_other_numbers(lambda value, divisor=divisor: rank_counts(value, divisor), 1, 16)
        self.assert_leaves_lists_alone(lambda value: rank_counts(value, 5))

    def test_other_divisors_are_refused(self):
        for number in (1, 4, 16):
            self.assert_refuses_other_numbers(lambda value, number=number: rank_counts(number, value), 1, 16)
        self.assert_leaves_lists_alone(lambda value: rank_counts(4, value))

    def test_both_wrong(self):
        for number in wrong_numbers(1, 16):
            for divisor in wrong_numbers(1, 16):
                self.assert_raises_just(InvalidNumber, rank_counts, number, divisor)


if __name__ == "__main__":
    unittest.main()
