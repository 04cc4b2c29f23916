"""A partition that is changed part by part, with a history."""

from pairedparts.errors import NothingToUndo, NotThere, TooLarge
from pairedparts.formatting import format_partition
from pairedparts.partitions import LARGEST, check_number, check_partition, mirrored


class Changer:
    """A path of partitions, the present one last."""

    def __init__(self, partition):
        check_partition(partition)
        self._path = [partition]
        # Undoing never takes away the first partition, nor what a duplicate began with.
        self._fixed = 1

    def __len__(self):
        # Each change added one partition, and only the first one was there before.
        return len(self._path[1:])

    def __str__(self):
        return str(format_partition(self._path[-1]))

    def __eq__(self, other):
        return isinstance(other, Changer) and self._path == other._path

    def put(self, part):
        """Put a part in and return the number of the partition."""
        check_number(part, 1, LARGEST)
        present = self._path[-1]
        if sum(present) + part > LARGEST:
            raise TooLarge(f"the number would be greater than {LARGEST}")
        changed = tuple(sorted(present + (part,), reverse=True))
        self._path.append(changed)
        return sum(changed)

    def take(self, part):
        """Take a part out and return the number of the partition."""
        check_number(part, 1, LARGEST)
        present = self._path[-1]
        if part not in present:
            raise NotThere("the partition has no such part")
        at = present.index(part)
        changed = present[:at] + present[at + 1:]
        self._path.append(changed)
        return sum(changed)

    def mirror(self):
        """Mirror the partition and return it."""
        changed = mirrored(self._path[-1])
        self._path.append(changed)
        return changed

    def partition(self):
        """Return the present partition."""
        return self._path[-1]

    def path(self):
        """Return the partitions from the first to the present one."""
        return list(self._path)

    def undo(self):
        """Undo the last change and return the partition afterwards."""
        if len(self._path) == self._fixed:
            raise NothingToUndo("there is no change that can be undone")
        self._path.pop()
        return self._path[-1]

    def duplicate(self):
        """Return a changer with the same path, in which no change made so far can be undone."""
        other = Changer(self._path[0])
        other._path = self.path()
        other._fixed = len(other._path)
        return other
