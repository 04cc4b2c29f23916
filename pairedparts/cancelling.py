"""Different partitions with an even and an odd number of parts, paired so that almost all cancel."""

from pairedparts.errors import NoPartner
from pairedparts.pairing import check_different, is_different
from pairedparts.partitions import LARGEST, check_number, lone_numbers, partitions


def partner(partition):
    """Return the partner of a different partition."""
    check_different(partition)
    if not partition:
        raise NoPartner("the empty partition has no partner")
    last = partition[-1]
    run = _run_length(partition)
    whole = run == len(partition)
    if last <= run and (last < run or not whole):
        return _with_last_spread(partition)
    if last > run and (last > run + 1 or not whole):
        return _with_new_last(partition, run)
    raise NoPartner("the partition has no partner")


def _run_length(partition):
    """Return how many first parts are each 1 less than the one before."""
    run = 1
    while run < len(partition) and partition[run] == partition[run - 1] - 1:
        run += 1
    return run


def _with_last_spread(partition):
    last = partition[-1]
    return tuple([part + 1 for part in partition[:last]]) + partition[last:-1]


def _with_new_last(partition, run):
    return tuple([part - 1 for part in partition[:run]]) + partition[run:] + (run,)


def alone(number):
    """Return the different partition of number that has no partner, or None."""
    check_number(number, 0, LARGEST)
    # Both lone numbers of k are at least k, so a greater k reaches past number.
    for k in range(number + 1):
        low, high = lone_numbers(k)
        if number == low:
            return tuple(range(2 * k - 1, k - 1, -1))
        if number == high:
            return tuple(range(2 * k, k, -1))
    return None


def surplus(number):
    """Return how many more different partitions of number have an even number of parts than an odd one."""
    total = 0
    for partition in partitions(number):
        if is_different(partition):
            total += 1 if len(partition) % 2 == 0 else -1
    return total
