"""Partitions whose parts keep apart, and partitions divided by their rank."""

from pairedparts.errors import NoRank
from pairedparts.partitions import LARGEST, check_number, check_partition, partitions


def keeps_apart(partition):
    """Tell whether each part is at least 2 greater than the next one."""
    check_partition(partition)
    return all([part - following >= 2 for part, following in zip(partition, partition[1:])])


def count_apart(number, least):
    """Return how many partitions of number keep apart and have no part less than least."""
    check_number(number, 0, LARGEST)
    check_number(least, 1, 2)
    found = [partition for partition in partitions(number) if keeps_apart(partition)]
    return len([partition for partition in found if all([part >= least for part in partition])])


def rank(partition):
    """Return the first part less the number of parts."""
    check_partition(partition)
    if not partition:
        raise NoRank("the empty partition has no rank")
    return partition[0] - len(partition)


def rank_counts(number, divisor):
    """Return how many partitions of number have ranks with the remainders 0, 1, ..., divisor - 1."""
    check_number(number, 1, LARGEST)
    check_number(divisor, 1, LARGEST)
    counts = [0] * divisor
    for partition in partitions(number):
        counts[rank(partition) % divisor] += 1
    return counts
