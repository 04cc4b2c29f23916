"""Partitions and wrong values for the tests, made without the package."""

from itertools import combinations

NUMBERS = range(17)

NOT_PARTITIONS = [
    # a number above 16
    (17,), (16, 1), (9, 8), (1,) * 17, (6, 5, 4, 2), (10 ** 5000,),
    # a part less than the next one
    (1, 2), (3, 1, 2), (2, 2, 3), (1, 3, 1), (2, 4),
    # a part 0 or below
    (0,), (1, 0), (0, 0), (-1,), (2, -1), (17, -1), (-(10 ** 5000),),
    # True or False among the parts, or instead of the tuple
    (True,), (2, True), (True, True), (False,), (2, False), (True, 1), True, False,
    # parts that are no integers
    ((1,),), ((), ()), ((2, 1), 1), (2, (1,)), ("1",), ("ab", "a"), (2, "1"), ("2", 1), (None,), (2, None),
    ([1],), ({},), (b"\x01",), (object(),), (3, object()), (int,), (2, 1j),
    # no tuples
    None, "", "3+1", "0", 0, 1, 3, -1, 10 ** 5000, b"", b"\x01", 1j,
    [], [3, 1], [1], {}, {3: 1}, set(), {1}, frozenset([1]), range(3, 0, -1), iter((3, 1)), object(), int, len,
]

NOT_INTEGERS = [
    True, False, None, "", "3", "three", b"3", (), (3,), (3, 1), [], [3], {}, {3: 3}, {3}, object(), int, 1j, range(3),
]


def wrong_numbers(least, most):
    """Return values that are not integers from least to most."""
    return [least - 1, most + 1, -1, -5, -(10 ** 5000), 10 ** 5000] + NOT_INTEGERS


def descending(parts):
    return tuple(sorted(parts, reverse=True))


def cells(partition):
    """Return the places of a picture of partition: a row of places for each part."""
    return [(row, column) for row, part in enumerate(partition) for column in range(part)]


def turned(partition):
    """Return the mirrored partition: the columns of the picture."""
    columns = [column for _, column in cells(partition)]
    return tuple(columns.count(column) for column in sorted(set(columns)))


def text_of(partition):
    """Return the text of partition as point [12] tells it."""
    text = ""
    for part in partition:
        text += f"+{part:d}"
    return text[1:] or "0"


def compositions(number):
    """Yield the ways to cut a row of number ones into pieces."""
    if number == 0:
        yield ()
        return
    for cuts in range(2 ** (number - 1)):
        pieces = [1]
        for at in range(number - 1):
            if cuts >> at & 1:
                pieces.append(1)
            else:
                pieces[-1] += 1
        yield tuple(pieces)


def listed(number):
    """Return the ascending list of the partitions of number: its compositions with their order forgotten."""
    return sorted({descending(pieces) for pieces in compositions(number)})


ALL = {number: listed(number) for number in NUMBERS}
EVERY = [partition for number in NUMBERS for partition in ALL[number]]


def listed_different(number):
    """Return the ascending list of the different partitions of number: the sets of parts with this sum."""
    sizes = range(1, number + 1)
    found = [descending(parts) for many in range(6) for parts in combinations(sizes, many) if sum(parts) == number]
    return sorted(found)


def odd_only(number):
    return [partition for partition in ALL[number] if not any(part % 2 == 0 for part in partition)]


DIFFERENT = {number: listed_different(number) for number in NUMBERS}
ODD = {number: odd_only(number) for number in NUMBERS}
EVERY_DIFFERENT = [partition for number in NUMBERS for partition in DIFFERENT[number]]
EVERY_ODD = [partition for number in NUMBERS for partition in ODD[number]]
EVERY_NOT_DIFFERENT = [partition for partition in EVERY if partition not in set(EVERY_DIFFERENT)]
EVERY_NOT_ODD = [partition for partition in EVERY if partition not in set(EVERY_ODD)]


EVERY_OWN_MIRROR = [partition for partition in EVERY if turned(partition) == partition]
EVERY_NOT_OWN_MIRROR = [partition for partition in EVERY if turned(partition) != partition]


def lone_ones():
    """Return the different partitions that point [6] says have no partner, as far as their number is at most 16."""
    found = [()]
    for k in range(1, 17):
        found.append(tuple(reversed([k + step for step in range(k)])))
        found.append(tuple(reversed([k + 1 + step for step in range(k)])))
    return [partition for partition in found if sum(partition) <= 16]


LONE = lone_ones()
EVERY_PAIRED = [partition for partition in EVERY_DIFFERENT if partition not in set(LONE)]
