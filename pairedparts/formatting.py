"""The text of a partition, there and back."""

from pairedparts.errors import ParseError
from pairedparts.partitions import LARGEST, check_partition, is_partition


def format_partition(partition):
    """Return the text of partition."""
    check_partition(partition)
    if not partition:
        return "0"
    return "+".join([str(part) for part in partition])


def parse_partition(text):
    """Return the partition with that text."""
    if not isinstance(text, str):
        raise ParseError("not a text")
    if text == "0":
        return ()
    # A table of the few parts, since int takes more texts than the one that a part has.
    sizes = {str(size): size for size in range(1, LARGEST + 1)}
    parts = tuple([sizes.get(word, 0) for word in text.split("+")])
    if not is_partition(parts):
        raise ParseError("not the text of a partition")
    return parts
