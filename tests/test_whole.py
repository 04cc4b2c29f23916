"""Point [1]: what holds over the whole program."""

import unittest

from pairedparts import apart, cancelling, formatting, pairing, partitions, squares
from pairedparts.errors import InvalidNumber, InvalidPartition, PartError
from tests.checks import Checks
from tests.listing import EVERY, NUMBERS, text_of

OF_A_PARTITION = [
    partitions.mirrored, pairing.is_odd, pairing.is_different, pairing.to_different, pairing.to_odd,
    cancelling.partner, squares.is_own_mirror, squares.hooks, squares.from_hooks, squares.side, squares.split,
    apart.keeps_apart, apart.rank, formatting.format_partition,
]
OF_A_NUMBER = [partitions.partitions, partitions.count, cancelling.alone, cancelling.surplus]


def calls():
    """Return many calls of all functions, wrong ones among them: each a function and its arguments."""
    found = []
    for partition in EVERY[::7] + [(), (3, 2, 1), (5, 1), (4, 2), (1, 2), (True,), None]:
        found.extend((function, (partition,)) for function in OF_A_PARTITION + [partitions.is_partition])
        found.append((squares.joined, ((2, partition, (1,)),)))
        found.append((formatting.parse_partition, (text_of(partition or ()),)))
    for number in list(NUMBERS) + [-1, 17, True, None]:
        found.extend((function, (number,)) for function in OF_A_NUMBER)
        for other in (1, 2, 5, 7, 17, False):
            found.append((apart.count_apart, (number, other)))
            found.append((apart.rank_counts, (number, other)))
    return found


def answer(call):
    """Return what the call returns, or the class of the error that it raises."""
    function, arguments = call
    try:
        return function(*arguments)
    except PartError as error:
        return type(error)


class WholeProgramTest(Checks):
    def test_equal_calls_return_equal_results_with_other_calls_in_between(self):
        first = [answer(call) for call in calls()]
        second = [answer(call) for call in reversed(calls())]
        self.assertEqual(first, second[::-1])
        self.assertEqual(first, [answer(call) for call in calls()])

    def test_results_that_are_changed_change_no_later_result(self):
        first = [answer(call) for call in calls()]
        for call in calls():
            found = answer(call)
            if isinstance(found, list):
                found.clear()
                found.append("changed")
        self.assertEqual(first, [answer(call) for call in calls()])

    def test_no_two_calls_return_the_same_list(self):
        lists = [found for found in [answer(call) for call in calls() + calls()] if isinstance(found, list)]
        self.assertEqual(len({id(found) for found in lists}), len(lists))

    def test_a_wrong_partition_comes_before_every_other_error(self):
        # These have an even part, equal parts and no mirror as well.
        for value in ((2, 2, 4), (8, 8, 2, 2), (2, 2, True), [2, 2]):
            for function in OF_A_PARTITION:
                with self.subTest(function=function.__name__, value=value):
                    self.assert_raises_just(InvalidPartition, function, value)

    def test_true_and_false_are_no_integers(self):
        for value in (True, False):
            for function in OF_A_NUMBER:
                self.assert_raises_just(InvalidNumber, function, value)
            for function in (apart.count_apart, apart.rank_counts):
                self.assert_raises_just(InvalidNumber, function, value, 1)
                self.assert_raises_just(InvalidNumber, function, 1, value)
            for function in OF_A_PARTITION:
                self.assert_raises_just(InvalidPartition, function, value)
                self.assert_raises_just(InvalidPartition, function, (value,))


if __name__ == "__main__":
    unittest.main()
