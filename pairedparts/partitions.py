"""Partitions: which values are some, all those of a number, how many there are, and their mirrors."""

from pairedparts.errors import InvalidNumber, InvalidPartition

LARGEST = 16
LARGEST_COUNTED = 100


def is_integer(value):
    """Tell whether value is an integer."""
    # Python takes True and False for integers, the package does not.
    return isinstance(value, int) and not isinstance(value, bool)


def is_partition(value):
    """Tell whether value is a partition."""
    if not isinstance(value, tuple):
        return False
    # Parts can be compared and added only once they are known to be integers.
    if not all([is_integer(part) and part > 0 for part in value]):
        return False
    return list(value) == sorted(value, reverse=True) and sum(value) <= LARGEST


def check_partition(value):
    """Raise InvalidPartition if value is not a partition."""
    # The message leaves the value out: not every object can be written as text.
    if not is_partition(value):
        raise InvalidPartition("not a tuple of integers above 0 that never rise and add up to at most 16")


def check_number(value, least, most):
    """Raise InvalidNumber if value is not an integer from least to most."""
    if not is_integer(value) or not least <= value <= most:
        raise InvalidNumber(f"not an integer from {least} to {most}")


def partitions(number):
    """Return the ascending list of all partitions of number."""
    check_number(number, 0, LARGEST)
    return _with_parts_up_to(number, number)


def _with_parts_up_to(number, most):
    if number == 0:
        return [()]
    found = []
    for first in range(1, min(number, most) + 1):
        for others in _with_parts_up_to(number - first, first):
            found.append((first,) + others)
    return found


def lone_numbers(k):
    """Return the two numbers that have a different partition of k parts without a partner."""
    return k * (3 * k - 1) // 2, k * (3 * k + 1) // 2


def count(number):
    """Return how many partitions number has."""
    check_number(number, 0, LARGEST_COUNTED)
    counts = [1]
    while len(counts) <= number:
        counts.append(_next_count(counts))
    return counts[number]


def _next_count(counts):
    """Return how many partitions len(counts) has, where counts says it of all lesser numbers."""
    number = len(counts)
    total = 0
    # Both lone numbers of k are at least k, so a greater k adds nothing.
    for k in range(1, number + 1):
        sign = 1 if k % 2 == 1 else -1
        for lone in lone_numbers(k):
            if lone <= number:
                total += sign * counts[number - lone]
    return total


def mirrored(partition):
    """Return the mirrored partition."""
    check_partition(partition)
    if not partition:
        return ()
    return tuple([_many_above(partition, at) for at in range(partition[0])])


def _many_above(partition, size):
    return len([part for part in partition if part > size])
