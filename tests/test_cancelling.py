"""Points [5] and [6]: pairedparts/cancelling.py."""

import unittest

from pairedparts.cancelling import alone, partner, surplus
from pairedparts.errors import NoPartner, NotDifferent
from pairedparts.pairing import is_different
from tests.checks import Checks
from tests.listing import DIFFERENT, EVERY_NOT_DIFFERENT, EVERY_PAIRED, LONE, NUMBERS


def by_the_words(partition):
    """Return the partner as point [5] tells it, or None."""
    s = partition[-1]
    exactly = len(partition)
    r = max(r for r in range(1, exactly + 1) if all(partition[at - 1] - partition[at] == 1 for at in range(1, r)))
    parts = list(partition)
    if s <= r and (exactly != r or s < r):
        parts.pop()
        for at in range(s):
            parts[at] += 1
        return tuple(parts)
    if s > r and (exactly != r or s > r + 1):
        for at in range(r):
            parts[at] -= 1
        parts.append(r)
        return tuple(parts)
    return None


class PartnerTest(Checks):
    def test_examples(self):
        self.assertEqual(partner((3, 1)), (4,))
        self.assertEqual(partner((4,)), (3, 1))
        self.assertEqual(partner((3,)), (2, 1))
        self.assertEqual(partner((2, 1)), (3,))
        self.assertEqual(partner((4, 3, 1)), (5, 3))
        self.assertEqual(partner((5, 4, 2)), (6, 5))

    def test_a_run_of_all_parts_whose_last_part_is_next_to_its_length(self):
        # s equal to r, and to r + 1, with exactly r parts: no partner; one step further on either side: a partner.
        self.assert_raises_just(NoPartner, partner, (3, 2))
        self.assert_raises_just(NoPartner, partner, (4, 3))
        self.assertEqual(partner((5, 4)), (4, 3, 2))
        self.assertEqual(partner((4, 3, 2)), (5, 4))
        # The same s and r with one more part than r.
        self.assertEqual(partner((5, 4, 2)), (6, 5))
        self.assertEqual(partner((6, 5, 3)), (5, 4, 3, 2))

    def test_every_different_partition_by_the_words_of_the_point(self):
        for partition in EVERY_PAIRED:
            with self.subTest(partition=partition):
                found = partner(partition)
                self.assert_partition(found, sum(partition))
                self.assertIs(is_different(found), True)
                self.assertEqual(found, by_the_words(partition))

    def test_the_partner_of_the_partner(self):
        for partition in EVERY_PAIRED:
            with self.subTest(partition=partition):
                found = partner(partition)
                self.assertEqual(partner(found), partition)
                self.assertEqual(abs(len(found) - len(partition)), 1)

    def test_those_that_have_none(self):
        for partition in LONE:
            with self.subTest(partition=partition):
                self.assert_raises_just(NoPartner, partner, partition)
                if partition:
                    self.assertIsNone(by_the_words(partition))

    def test_the_empty_one_has_none(self):
        self.assert_raises_just(NoPartner, partner, ())

    def test_the_others_are_not_different(self):
        for partition in EVERY_NOT_DIFFERENT:
            with self.subTest(partition=partition):
                self.assert_raises_just(NotDifferent, partner, partition)

    def test_other_values_are_refused_first(self):
        self.assert_refuses_what_is_no_partition(partner)
        self.assert_leaves_lists_alone(partner)


class AloneTest(Checks):
    def test_examples(self):
        self.assertEqual(alone(5), (3, 2))
        found = {number: alone(number) for number in NUMBERS if alone(number) is not None}
        self.assertEqual(found, {0: (), 1: (1,), 2: (2,), 5: (3, 2), 7: (4, 3), 12: (5, 4, 3), 15: (6, 5, 4)})

    def test_against_all_different_partitions(self):
        for number in NUMBERS:
            lone = [partition for partition in DIFFERENT[number] if not partition or by_the_words(partition) is None]
            with self.subTest(number=number):
                self.assertEqual(lone, [partition for partition in LONE if sum(partition) == number])
                self.assertLessEqual(len(lone), 1)
                if lone:
                    self.assertEqual(alone(number), lone[0])
                    self.assert_partition(alone(number), number)
                else:
                    self.assertIsNone(alone(number))

    def test_other_numbers_are_refused(self):
        self.assert_refuses_other_numbers(alone, 0, 16)
        self.assert_leaves_lists_alone(alone)


class SurplusTest(Checks):
    def test_examples(self):
        self.assertEqual(surplus(5), 1)
        self.assertEqual([surplus(number) for number in NUMBERS], [1, -1, -1, 0, 0, 1, 0, 1] + [0] * 4 + [-1, 0, 0, -1, 0])

    def test_against_all_different_partitions(self):
        for number in NUMBERS:
            even = [partition for partition in DIFFERENT[number] if len(partition) % 2 == 0]
            odd = [partition for partition in DIFFERENT[number] if len(partition) % 2 == 1]
            with self.subTest(number=number):
                self.assertIs(type(surplus(number)), int)
                self.assertEqual(surplus(number), len(even) - len(odd))

    def test_the_lone_one_makes_the_difference(self):
        for number in NUMBERS:
            lone = alone(number)
            with self.subTest(number=number):
                self.assertEqual(surplus(number), 0 if lone is None else (-1) ** len(lone))

    def test_other_numbers_are_refused(self):
        self.assert_refuses_other_numbers(surplus, 0, 16)
        self.assert_leaves_lists_alone(surplus)


if __name__ == "__main__":
    unittest.main()
