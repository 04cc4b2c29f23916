"""The exceptions that the package raises."""


class PartError(ValueError):
    """The base class of all exceptions of the package."""


class InvalidPartition(PartError):
    """A value that is not a partition."""


class InvalidNumber(PartError):
    """A value that is not an integer within its limits."""


class NotOdd(PartError):
    """A partition that has an even part."""


class NotDifferent(PartError):
    """A partition that has two equal parts."""


class NoPartner(PartError):
    """A different partition that has no partner."""


class NotOwnMirror(PartError):
    """A partition that is not equal to its mirrored partition."""


class InvalidSplit(PartError):
    """A value that is not the split of a partition."""


class NoRank(PartError):
    """The empty partition, which has no rank."""


class TooLarge(PartError):
    """A change after which the number would be too large."""


class NotThere(PartError):
    """A part that the partition does not have."""


class NothingToUndo(PartError):
    """A changer without a change that can be undone."""


class ParseError(PartError):
    """A text that is not the text of a partition."""
