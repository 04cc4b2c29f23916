"""Odd partitions and different ones, paired one to one."""

from pairedparts.errors import NotDifferent, NotOdd
from pairedparts.partitions import check_partition


def is_odd(partition):
    """Tell whether all parts are odd."""
    check_partition(partition)
    return all([part % 2 == 1 for part in partition])


def is_different(partition):
    """Tell whether no two parts are equal."""
    check_partition(partition)
    return len(set(partition)) == len(partition)


def check_odd(partition):
    """Raise InvalidPartition or NotOdd if partition is not an odd partition."""
    if not is_odd(partition):
        raise NotOdd("the partition has an even part")


def check_different(partition):
    """Raise InvalidPartition or NotDifferent if partition is not a different partition."""
    if not is_different(partition):
        raise NotDifferent("the partition has two equal parts")


def to_different(partition):
    """Return the different partition of an odd one."""
    check_odd(partition)
    parts = list(partition)
    at = 0
    while at + 1 < len(parts):
        if parts[at] == parts[at + 1]:
            parts = sorted(parts[:at] + [2 * parts[at]] + parts[at + 2:], reverse=True)
            # The sum may be equal to a part that was already passed.
            at = 0
        else:
            at += 1
    return tuple(parts)


def to_odd(partition):
    """Return the odd partition of a different one."""
    check_different(partition)
    parts = []
    for part in partition:
        parts.extend(_halved(part))
    return tuple(sorted(parts, reverse=True))


def _halved(part):
    """Return the equal odd parts that halving makes of a part."""
    size = part
    many = 1
    while size % 2 == 0:
        size //= 2
        many *= 2
    return [size] * many
