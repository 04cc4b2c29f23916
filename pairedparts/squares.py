"""Partitions that are their own mirror and their hooks, and the square at which a partition is split."""

from pairedparts.errors import InvalidSplit, NotOwnMirror
from pairedparts.pairing import check_different, check_odd
from pairedparts.partitions import LARGEST, check_partition, is_integer, is_partition, mirrored


def is_own_mirror(partition):
    """Tell whether partition is equal to its mirrored partition."""
    return mirrored(partition) == partition


def hooks(partition):
    """Return the hooks of a partition that is its own mirror."""
    if not is_own_mirror(partition):
        raise NotOwnMirror("the partition is not its own mirror")
    # A part is greater than its number just within the square.
    return tuple([2 * partition[at] - (2 * at + 1) for at in range(side(partition))])


def from_hooks(partition):
    """Return the partition that is its own mirror and has these hooks."""
    check_odd(partition)
    check_different(partition)
    size = len(partition)
    above = [(hook + 1) // 2 + at - size for at, hook in enumerate(partition)]
    first = _without_zeros(above)
    # What is below the square mirrors what is beside it.
    return _put_together(size, first, mirrored(first))


def _without_zeros(parts):
    return tuple([part for part in parts if part != 0])


def side(partition):
    """Return the greatest d such that at least d parts are at least d."""
    check_partition(partition)
    size = 0
    while size < len(partition) and partition[size] > size:
        size += 1
    return size


def split(partition):
    """Return the side, what the first parts have above it, and the other parts."""
    size = side(partition)
    return size, _without_zeros([part - size for part in partition[:size]]), partition[size:]


def joined(value):
    """Return the partition with this split."""
    if not _is_split(value):
        raise InvalidSplit("not a side with two partitions that fit beside and below its square")
    size, first, second = value
    return _put_together(size, first, second)


def _is_split(value):
    if not isinstance(value, tuple) or len(value) != 3:
        return False
    size, first, second = value
    if not is_integer(size) or not is_partition(first) or not is_partition(second):
        return False
    # No partition has fewer than 0 parts, so this refuses a side below 0 too.
    if len(first) > size or any([part > size for part in second]):
        return False
    return size * size + sum(first) + sum(second) <= LARGEST


def _put_together(size, first, second):
    above = first + (0,) * (size - len(first))
    return tuple([size + part for part in above]) + second
