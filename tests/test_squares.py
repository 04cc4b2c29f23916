"""Points [8] and [9]: pairedparts/squares.py."""

import unittest

from pairedparts.errors import InvalidSplit, NotDifferent, NotOdd, NotOwnMirror
from pairedparts.partitions import mirrored
from pairedparts.squares import from_hooks, hooks, is_own_mirror, joined, side, split
from tests.checks import Checks
from tests.listing import (
    ALL, EVERY, EVERY_DIFFERENT, EVERY_NOT_ODD, EVERY_NOT_OWN_MIRROR, EVERY_ODD, EVERY_OWN_MIRROR, NOT_INTEGERS,
    NOT_PARTITIONS, NUMBERS, cells,
)

EVERY_ODD_AND_DIFFERENT = [partition for partition in EVERY_ODD if partition in set(EVERY_DIFFERENT)]
EVERY_ODD_NOT_DIFFERENT = [partition for partition in EVERY_ODD if partition not in set(EVERY_DIFFERENT)]


def hooks_by_the_words(partition):
    found = []
    for i, part in enumerate(partition):
        if part <= i:
            break
        found.append(2 * part - (2 * i + 1))
    return tuple(found)


def hooks_in_the_picture(partition):
    """Return how many places are in each row and column that begin at the same place of the diagonal."""
    found = [min(place) for place in cells(partition)]
    return tuple(found.count(i) for i in sorted(set(found)))


def side_by_the_words(partition):
    return max(d for d in range(17) if sum(part >= d for part in partition) >= d)


def split_by_the_words(partition):
    d = side_by_the_words(partition)
    return d, tuple(part - d for part in partition[:d] if part - d > 0), partition[d:]


PARTITION_OF_SPLIT = {split_by_the_words(partition): partition for partition in EVERY}

NOT_SPLITS = [
    # a side below 0, or of the wrong kind
    (-1, (), ()), (-1, (1,), ()), (-2, (), ()), (True, (), ()), (True, (1,), (1,)), (False, (), ()), (None, (), ()),
    ("0", (), ()), ("2", (2,), (1,)), ((), (), ()), ((2,), (2,), (1,)), ([], (), ()), (b"", (), ()), (object(), (), ()),
    # a first piece with more than d parts
    (0, (1,), ()), (1, (1, 1), ()), (1, (2, 1), (1,)), (2, (1, 1, 1), ()), (3, (1, 1, 1, 1), (1,)),
    # a second piece with a part greater than d
    (0, (), (1,)), (1, (), (2,)), (1, (5,), (2, 1)), (2, (), (3,)), (2, (2,), (3, 1)), (3, (), (4, 3)),
    # a sum above 16
    (1, (16,), ()), (1, (15,), (1,)), (1, (), (1,) * 16), (2, (8,), (1,) * 5), (2, (12, 1), ()),
    (2, (), (2,) * 6 + (1,)), (3, (4, 4), ()), (3, (), (3, 3, 2)), (3, (4,), (3, 1)), (4, (1,), ()), (4, (), (1,)),
    (5, (), ()), (16, (), ()),
    (10 ** 5000, (), ()), (-(10 ** 5000), (), ()),
    # the pieces in another order
    ((2,), 2, (1,)), ((2,), (1,), 2), ((2,), (1,)),
    # tuples of other lengths
    (), (0,), (0, ()), (2, (2,)), (0, (), (), ()), (2, (2,), (1,), ()), (2, (2,), (1,), (1,)), (2, 2, 1),
    ((2, (2,), (1,)),), ((0, (), ()),),
    # lists instead of tuples
    [2, (2,), (1,)], [0, (), ()], [], (2, [2], (1,)), (2, (2,), [1]), (0, [], ()), (0, (), []),
    # other objects
    None, True, False, "", "0", "4+2+1", "abc", b"abc", 0, 2, -1, 10 ** 5000, {}, {0: (), 1: (), 2: ()}, set(),
    {0, 1, 2}, frozenset([0, 1, 2]), range(3), iter((0, (), ())), object(), int, len, 1j,
] + [(1, value, (1,)) for value in NOT_PARTITIONS] + [(16, (), value) for value in NOT_PARTITIONS] \
    + [(value, (), ()) for value in NOT_INTEGERS]


class OwnMirrorTest(Checks):
    def test_examples(self):
        self.assertIs(is_own_mirror((3, 1, 1)), True)
        self.assertIs(is_own_mirror(()), True)
        self.assertIs(is_own_mirror((4, 4, 4, 4)), True)
        self.assertIs(is_own_mirror((2,)), False)
        self.assertIs(is_own_mirror((3, 1)), False)

    def test_every_partition(self):
        for partition in EVERY:
            with self.subTest(partition=partition):
                self.assertIs(is_own_mirror(partition), partition in EVERY_OWN_MIRROR)
                self.assertIs(is_own_mirror(partition), mirrored(partition) == partition)

    def test_other_values_are_refused(self):
        self.assert_refuses_what_is_no_partition(is_own_mirror)
        self.assert_leaves_lists_alone(is_own_mirror)


class HooksTest(Checks):
    def test_examples(self):
        self.assertEqual(hooks((3, 2, 1)), (5, 1))
        self.assertEqual(hooks(()), ())
        self.assertEqual(hooks((1,)), (1,))
        self.assertEqual(hooks((4, 4, 4, 4)), (7, 5, 3, 1))

    def test_every_partition_that_is_its_own_mirror(self):
        for partition in EVERY_OWN_MIRROR:
            with self.subTest(partition=partition):
                found = hooks(partition)
                self.assert_partition(found, sum(partition))
                self.assertEqual(found, hooks_by_the_words(partition))
                self.assertEqual(found, hooks_in_the_picture(partition))
                self.assertIn(found, EVERY_ODD_AND_DIFFERENT)

    def test_the_others_are_not_their_own_mirror(self):
        for partition in EVERY_NOT_OWN_MIRROR:
            with self.subTest(partition=partition):
                self.assert_raises_just(NotOwnMirror, hooks, partition)

    def test_other_values_are_refused_first(self):
        self.assert_refuses_what_is_no_partition(hooks)
        self.assert_leaves_lists_alone(hooks)


class FromHooksTest(Checks):
    def test_examples(self):
        self.assertEqual(from_hooks((5, 1)), (3, 2, 1))
        self.assertEqual(from_hooks(()), ())
        self.assertEqual(from_hooks((15,)), (8,) + (1,) * 7)
        self.assertEqual(from_hooks((7, 5, 3, 1)), (4, 4, 4, 4))

    def test_every_partition_with_different_odd_parts(self):
        for partition in EVERY_ODD_AND_DIFFERENT:
            with self.subTest(partition=partition):
                found = from_hooks(partition)
                self.assert_partition(found, sum(partition))
                self.assertIn(found, EVERY_OWN_MIRROR)
                self.assertEqual(hooks_by_the_words(found), partition)
                self.assertEqual(hooks(found), partition)

    def test_leads_back(self):
        for partition in EVERY_OWN_MIRROR:
            with self.subTest(partition=partition):
                self.assertEqual(from_hooks(hooks(partition)), partition)

    def test_an_even_part_comes_before_equal_parts(self):
        self.assertIn((2, 2), EVERY_NOT_ODD)
        for partition in EVERY_NOT_ODD:
            with self.subTest(partition=partition):
                self.assert_raises_just(NotOdd, from_hooks, partition)

    def test_equal_odd_parts(self):
        self.assertIn((3, 1, 1), EVERY_ODD_NOT_DIFFERENT)
        for partition in EVERY_ODD_NOT_DIFFERENT:
            with self.subTest(partition=partition):
                self.assert_raises_just(NotDifferent, from_hooks, partition)

    def test_other_values_are_refused_first(self):
        self.assert_refuses_what_is_no_partition(from_hooks)
        self.assert_leaves_lists_alone(from_hooks)


class OwnMirrorsAndHooksTest(Checks):
    def test_as_many_own_mirrors_as_partitions_with_different_odd_parts(self):
        for number in NUMBERS:
            with self.subTest(number=number):
                mirrors = [partition for partition in ALL[number] if is_own_mirror(partition)]
                odd = [partition for partition in EVERY_ODD_AND_DIFFERENT if sum(partition) == number]
                self.assertEqual(len(mirrors), len(odd))
                self.assertEqual(sorted(hooks(partition) for partition in mirrors), sorted(odd))
                self.assertEqual(sorted(from_hooks(partition) for partition in odd), sorted(mirrors))


class SideTest(Checks):
    def test_examples(self):
        self.assertEqual(side((3, 2, 1)), 2)
        self.assertEqual(side(()), 0)
        self.assertEqual(side((16,)), 1)
        self.assertEqual(side((1,) * 16), 1)
        self.assertEqual(side((4, 4, 4, 4)), 4)
        self.assertEqual(side((4, 4, 4, 3, 1)), 3)
        self.assertEqual(side((3, 3, 3)), 3)
        self.assertEqual(side((3, 3, 2)), 2)

    def test_every_partition(self):
        for partition in EVERY:
            with self.subTest(partition=partition):
                self.assertIs(type(side(partition)), int)
                self.assertEqual(side(partition), side_by_the_words(partition))

    def test_other_values_are_refused(self):
        self.assert_refuses_what_is_no_partition(side)
        self.assert_leaves_lists_alone(side)


class SplitTest(Checks):
    def test_examples(self):
        self.assertEqual(split((4, 2, 1)), (2, (2,), (1,)))
        self.assertEqual(split(()), (0, (), ()))
        self.assertEqual(split((16,)), (1, (15,), ()))
        self.assertEqual(split((1,) * 16), (1, (), (1,) * 15))
        self.assertEqual(split((4, 4, 4, 4)), (4, (), ()))
        self.assertEqual(split((5, 3, 2, 2, 1)), (2, (3, 1), (2, 2, 1)))

    def test_every_partition(self):
        for partition in EVERY:
            with self.subTest(partition=partition):
                found = split(partition)
                self.assertIs(type(found), tuple)
                self.assertEqual(found, split_by_the_words(partition))
                size, first, second = found
                self.assertIs(type(size), int)
                self.assert_partition(first, sum(first))
                self.assert_partition(second, sum(second))
                self.assertEqual(size * size + sum(first) + sum(second), sum(partition))

    def test_each_split_belongs_to_one_partition(self):
        self.assertEqual(len({split(partition) for partition in EVERY}), len(EVERY))

    def test_other_values_are_refused(self):
        self.assert_refuses_what_is_no_partition(split)
        self.assert_leaves_lists_alone(split)


class JoinedTest(Checks):
    def test_examples(self):
        self.assertEqual(joined((2, (2,), (1,))), (4, 2, 1))
        self.assertEqual(joined((0, (), ())), ())
        self.assertEqual(joined((1, (), ())), (1,))
        self.assertEqual(joined((4, (), ())), (4, 4, 4, 4))
        self.assertEqual(joined((3, (4, 3), ())), (7, 6, 3))
        self.assertEqual(joined((3, (1, 1, 1), (3, 1))), (4, 4, 4, 3, 1))

    def test_leads_back(self):
        for partition in EVERY:
            with self.subTest(partition=partition):
                found = joined(split(partition))
                self.assert_partition(found, sum(partition))
                self.assertEqual(found, partition)

    def test_just_the_splits_of_partitions_are_splits(self):
        # Up to a sum of 17, so that those just above the limit are among them.
        for d in range(6):
            for both in range(18 - d * d):
                for number in range(max(0, both - 16), min(both, 16) + 1):
                    for first in ALL[number]:
                        for second in ALL[both - number]:
                            self.check((d, first, second))

    def check(self, value):
        if value in PARTITION_OF_SPLIT:
            self.assertEqual(joined(value), PARTITION_OF_SPLIT[value], value)
            return
        try:
            joined(value)
        except InvalidSplit:
            return
        self.fail(f"{value} is no split")

    def test_a_tuple_that_is_a_split_by_the_words_of_the_point(self):
        for d in range(5):
            for first in EVERY:
                for second in ((), (1,), (2, 1), (3, 3), (4,), (5,)):
                    fits = len(first) <= d and not any(part > d for part in second)
                    fits = fits and d * d + sum(first) + sum(second) <= 16
                    self.assertEqual((d, first, second) in PARTITION_OF_SPLIT, fits)
                    self.check((d, first, second))

    def test_other_values_are_refused(self):
        for at, value in enumerate(NOT_SPLITS):
            with self.subTest(at=at):
                self.assert_raises_just(InvalidSplit, joined, value)

    def test_refused_lists_stay_as_they_were(self):
        self.assert_leaves_lists_alone(joined)
        given = (1, [3, 1], [2])
        self.assert_raises_just(InvalidSplit, joined, given)
        self.assertEqual(given, (1, [3, 1], [2]))


if __name__ == "__main__":
    unittest.main()
