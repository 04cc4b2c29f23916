"""Point [13]: pairedparts/changer.py."""

import unittest
from itertools import product

from pairedparts.changer import Changer
from pairedparts.errors import InvalidNumber, InvalidPartition, NotThere, NothingToUndo, TooLarge
from tests.checks import Checks
from tests.listing import EVERY, descending, text_of, turned, wrong_numbers


class Told:
    """What point [13] says of a changer: its path, and how much of it cannot be undone."""

    def __init__(self, path, lasting):
        self.path = path
        self.lasting = lasting

    def copy(self):
        return Told(list(self.path), len(self.path))

    def answer(self, name, *arguments):
        """Make the change that is named, and return what it returns or the class of the error that it raises."""
        parts = list(self.path[-1])
        if name == "undo":
            if len(self.path) == self.lasting:
                return NothingToUndo
            self.path.pop()
            return self.path[-1]
        if name == "mirror":
            self.path.append(turned(self.path[-1]))
            return self.path[-1]
        [part] = arguments
        if isinstance(part, bool) or not isinstance(part, int) or part not in range(1, 17):
            return InvalidNumber
        if name == "put":
            if sum(parts) + part > 16:
                return TooLarge
            parts.append(part)
        else:
            if part not in parts:
                return NotThere
            parts.remove(part)
        self.path.append(descending(parts))
        return sum(parts)


CHANGES = [
    ("put", 1), ("put", 3), ("put", 7), ("put", 17), ("take", 1), ("take", 4), ("mirror",), ("undo",), ("duplicate",),
]
BEGINNINGS = [(), (4, 1), (5, 5, 4, 1)]


class ChangerChecks(Checks):
    def assert_is_as_told(self, changer, told, where=None):
        self.assertEqual(changer.path(), told.path, where)
        self.assertEqual(changer.partition(), told.path[-1], where)
        self.assertEqual(len(changer), len(told.path) - 1, where)
        self.assertEqual(str(changer), text_of(told.path[-1]), where)

    def assert_change(self, changer, told, change, where=None):
        """Make the change, and check what it returns or raises."""
        name, *arguments = change
        answer = told.answer(name, *arguments)
        method = getattr(changer, name)
        if isinstance(answer, type):
            self.assert_raises_just(answer, method, *arguments, told=where)
        else:
            found = method(*arguments)
            self.assertEqual(found, answer, where)
            self.assertIs(type(found), type(answer), where)


class ExamplesTest(ChangerChecks):
    def test_one_after_another(self):
        c = Changer((4, 1))
        self.assertEqual(c.put(2), 7)
        self.assertEqual(str(c), "4+2+1")
        self.assertEqual(c.take(4), 3)
        self.assertEqual(c.mirror(), (2, 1))
        self.assertEqual(c.partition(), (2, 1))
        self.assertEqual(c.undo(), (2, 1))
        self.assertEqual(c.path(), [(4, 1), (4, 2, 1), (2, 1)])
        self.assertEqual(len(c), 2)
        self.assertEqual(c.undo(), (4, 2, 1))
        self.assertEqual(c.undo(), (4, 1))
        self.assert_raises_just(NothingToUndo, c.undo)
        self.assertEqual(c.path(), [(4, 1)])


class NewChangerTest(ChangerChecks):
    def test_every_partition(self):
        for partition in EVERY:
            with self.subTest(partition=partition):
                changer = Changer(partition)
                self.assertIs(type(changer), Changer)
                self.assert_is_as_told(changer, Told([partition], 1))
                self.assert_raises_just(NothingToUndo, changer.undo)
                self.assert_is_as_told(changer, Told([partition], 1))

    def test_other_values_are_refused(self):
        self.assert_refuses_what_is_no_partition(Changer)
        self.assert_leaves_lists_alone(Changer)


class PutTest(ChangerChecks):
    def test_every_partition_and_part(self):
        for partition in EVERY:
            for part in range(1, 17):
                where = f"{part} into {partition}"
                changer, told = Changer(partition), Told([partition], 1)
                self.assert_change(changer, told, ("put", part), where)
                self.assert_is_as_told(changer, told, where)

    def test_up_to_16_and_no_further(self):
        changer = Changer((8, 7))
        self.assert_raises_just(TooLarge, changer.put, 2)
        self.assertEqual(changer.put(1), 16)
        for part in range(1, 17):
            self.assert_raises_just(TooLarge, changer.put, part)
        self.assertEqual(changer.path(), [(8, 7), (8, 7, 1)])

    def test_other_numbers_are_refused_first(self):
        for partition in ((), (4, 2), (16,)):
            changer = Changer(partition)
            self.assert_refuses_other_numbers(changer.put, 1, 16)
            self.assert_leaves_lists_alone(changer.put)
            self.assert_is_as_told(changer, Told([partition], 1))


class TakeTest(ChangerChecks):
    def test_every_partition_and_part(self):
        for partition in EVERY:
            for part in range(1, 17):
                where = f"{part} from {partition}"
                changer, told = Changer(partition), Told([partition], 1)
                self.assert_change(changer, told, ("take", part), where)
                self.assert_is_as_told(changer, told, where)

    def test_one_of_equal_parts(self):
        changer = Changer((3, 3, 1))
        self.assertEqual(changer.take(3), 4)
        self.assertEqual(changer.take(3), 1)
        self.assert_raises_just(NotThere, changer.take, 3)
        self.assertEqual(changer.take(1), 0)
        self.assertEqual(str(changer), "0")
        self.assertEqual(changer.path(), [(3, 3, 1), (3, 1), (1,), ()])

    def test_other_numbers_are_refused_first(self):
        for partition in ((), (4, 2, 1)):
            changer = Changer(partition)
            self.assert_refuses_other_numbers(changer.take, 1, 16)
            self.assert_leaves_lists_alone(changer.take)
            self.assert_is_as_told(changer, Told([partition], 1))


class MirrorTest(ChangerChecks):
    def test_every_partition(self):
        for partition in EVERY:
            with self.subTest(partition=partition):
                changer, told = Changer(partition), Told([partition], 1)
                for _ in range(3):
                    self.assert_change(changer, told, ("mirror",))
                    self.assert_is_as_told(changer, told)

    def test_an_own_mirror_is_a_change_too(self):
        changer = Changer((2, 1))
        self.assertEqual(changer.mirror(), (2, 1))
        self.assertEqual(changer.path(), [(2, 1), (2, 1)])
        self.assertEqual(len(changer), 1)
        self.assertEqual(changer.undo(), (2, 1))
        self.assertEqual(len(changer), 0)


class PathTest(ChangerChecks):
    def test_a_new_list_with_each_call(self):
        changer = Changer((4, 1))
        changer.put(2)
        first = changer.path()
        second = changer.path()
        self.assertIs(type(first), list)
        self.assertIsNot(first, second)
        first.clear()
        second.append((1,))
        self.assert_is_as_told(changer, Told([(4, 1), (4, 2, 1)], 1))

    def test_a_changed_path_changes_no_duplicate_either(self):
        changer = Changer((4, 1))
        changer.put(2)
        other = changer.duplicate()
        changer.path().clear()
        other.path()[0] = (9,)
        for one in (changer, other, changer.duplicate(), other.duplicate()):
            self.assert_is_as_told(one, Told([(4, 1), (4, 2, 1)], 1))

    def test_a_path_that_was_told_stays_as_it_was(self):
        changer = Changer((4, 1))
        path = changer.path()
        changer.put(2)
        changer.mirror()
        self.assertEqual(path, [(4, 1)])
        path = changer.path()
        changer.undo()
        self.assertEqual(path, [(4, 1), (4, 2, 1), (3, 2, 1, 1)])

    def test_telling_changes_nothing(self):
        changer = Changer((4, 1))
        changer.put(2)
        for _ in range(2):
            self.assert_is_as_told(changer, Told([(4, 1), (4, 2, 1)], 1))


class UndoTest(ChangerChecks):
    def test_to_the_beginning(self):
        changer, told = Changer((3, 2)), Told([(3, 2)], 1)
        changes = [("put", 5), ("mirror",), ("take", 3), ("put", 1), ("mirror",), ("mirror",), ("put", 2), ("take", 2)]
        for change in changes:
            self.assert_change(changer, told, change)
        self.assertEqual(len(changer), len(changes))
        for at in range(len(changes)):
            self.assert_change(changer, told, ("undo",))
            self.assert_is_as_told(changer, told)
            self.assertEqual(len(changer), len(changes) - at - 1)
        self.assertEqual(changer.path(), [(3, 2)])
        for _ in range(2):
            self.assert_raises_just(NothingToUndo, changer.undo)
            self.assert_is_as_told(changer, Told([(3, 2)], 1))

    def test_a_refused_change_is_none_that_can_be_undone(self):
        changer = Changer((16,))
        self.assert_raises_just(TooLarge, changer.put, 1)
        self.assert_raises_just(NotThere, changer.take, 1)
        self.assert_raises_just(InvalidNumber, changer.put, 0)
        self.assert_raises_just(InvalidNumber, changer.take, True)
        self.assert_raises_just(NothingToUndo, changer.undo)
        self.assert_is_as_told(changer, Told([(16,)], 1))

    def test_changes_after_an_undone_one(self):
        changer = Changer((4, 1))
        changer.put(2)
        changer.undo()
        changer.put(3)
        self.assertEqual(changer.path(), [(4, 1), (4, 3, 1)])
        self.assertEqual(changer.undo(), (4, 1))


class DuplicateTest(ChangerChecks):
    def test_cannot_undo_what_was_before(self):
        changer = Changer((4, 1))
        changer.put(2)
        changer.mirror()
        other = changer.duplicate()
        self.assertIs(type(other), Changer)
        self.assertIsNot(other, changer)
        told = Told([(4, 1), (4, 2, 1), (3, 2, 1, 1)], 3)
        self.assert_is_as_told(other, told)
        self.assert_raises_just(NothingToUndo, other.undo)
        self.assert_is_as_told(other, told)
        self.assertEqual(other.take(3), 4)
        self.assertEqual(other.undo(), (3, 2, 1, 1))
        self.assert_raises_just(NothingToUndo, other.undo)
        self.assert_is_as_told(other, told)

    def test_the_two_go_by_themselves(self):
        changer = Changer((4, 1))
        changer.put(2)
        other = changer.duplicate()
        self.assertEqual(changer.undo(), (4, 1))
        self.assertEqual(changer.put(5), 10)
        self.assertEqual(other.take(1), 6)
        self.assert_is_as_told(changer, Told([(4, 1), (5, 4, 1)], 1))
        self.assert_is_as_told(other, Told([(4, 1), (4, 2, 1), (4, 2)], 2))

    def test_what_the_first_one_can_undo_stays(self):
        changer = Changer((4, 1))
        changer.put(2)
        changer.duplicate()
        self.assertEqual(changer.undo(), (4, 1))
        self.assert_raises_just(NothingToUndo, changer.undo)

    def test_a_duplicate_of_a_duplicate(self):
        changer = Changer(())
        changer.put(1)
        second = changer.duplicate()
        second.put(2)
        third = second.duplicate()
        third.put(3)
        self.assertEqual(third.undo(), (2, 1))
        self.assert_raises_just(NothingToUndo, third.undo)
        self.assertEqual(second.undo(), (1,))
        self.assert_raises_just(NothingToUndo, second.undo)
        self.assertEqual(changer.undo(), ())
        self.assert_raises_just(NothingToUndo, changer.undo)
        self.assertEqual(third.path(), [(), (1,), (2, 1)])


class EqualTest(ChangerChecks):
    def assert_equal_ones(self, one, other):
        self.assertIs(one == other, True)
        self.assertIs(other == one, True)
        self.assertIs(one != other, False)
        self.assertIs(other != one, False)

    def assert_other_ones(self, one, other):
        self.assertIs(one == other, False)
        self.assertIs(other == one, False)
        self.assertIs(one != other, True)
        self.assertIs(other != one, True)

    def test_an_equal_path(self):
        one, other = Changer((4, 1)), Changer((4, 1))
        self.assert_equal_ones(one, one)
        self.assert_equal_ones(one, other)
        one.put(2)
        self.assert_other_ones(one, other)
        other.put(2)
        self.assert_equal_ones(one, other)
        one.undo()
        other.undo()
        self.assert_equal_ones(one, other)

    def test_an_equal_path_by_other_changes(self):
        one, other = Changer((2, 1)), Changer((2, 1))
        one.mirror()
        one.put(3)
        one.undo()
        other.put(1)
        other.undo()
        self.assert_other_ones(one, other)
        other.mirror()
        self.assert_equal_ones(one, other)

    def test_a_duplicate_is_equal_although_it_cannot_undo(self):
        one = Changer((4, 1))
        one.put(2)
        other = one.duplicate()
        self.assert_equal_ones(one, other)
        other.put(1)
        self.assert_other_ones(one, other)

    def test_another_path(self):
        # The same partition at the end is not enough, nor the same one at the beginning.
        one, other = Changer((2,)), Changer((2, 1))
        one.put(1)
        self.assertEqual(one.partition(), other.partition())
        self.assert_other_ones(one, other)
        third = Changer((2,))
        self.assert_other_ones(one, third)
        third.put(3)
        self.assert_other_ones(one, third)
        fourth, fifth = Changer((3, 1)), Changer((3, 1))
        for changer, part in ((fourth, 1), (fourth, 2), (fifth, 2), (fifth, 1)):
            changer.put(part)
        self.assertEqual(fourth.partition(), fifth.partition())
        self.assertEqual(len(fourth), len(fifth))
        self.assert_other_ones(fourth, fifth)

    def test_every_two_partitions(self):
        few = EVERY[:60]
        for first in few:
            for second in few:
                self.assertIs(Changer(first) == Changer(second), first == second)

    def test_other_objects(self):
        changer = Changer(())
        others = [
            None, True, False, 0, 1, 10 ** 5000, "", "0", b"", (), [], [()], ((),), {}, {(): ()}, set(), object(),
            Changer, int, len, Told([()], 1), changer.path(), changer.partition(), str(changer), changer.path,
        ]
        for at, other in enumerate(others):
            with self.subTest(at=at):
                self.assert_other_ones(changer, other)


class ManyChangesTest(ChangerChecks):
    def test_all_ways_to_make_four_changes(self):
        for beginning in BEGINNINGS:
            for changes in product(CHANGES, repeat=4):
                self.go(beginning, changes)

    def go(self, beginning, changes):
        """Make the changes to the latest duplicate, and check it and those that it was made of."""
        family = [(Changer(beginning), Told([beginning], 1))]
        for change in changes:
            changer, told = family[-1]
            if change == ("duplicate",):
                family.append((changer.duplicate(), told.copy()))
            else:
                self.assert_change(changer, told, change, changes)
            self.assert_is_as_told(*family[-1], changes)
        for changer, told in family:
            self.assert_is_as_told(changer, told, changes)
            for other, other_told in family:
                self.assertIs(changer == other, told.path == other_told.path, changes)

    def test_undoing_all_that_can_be_undone(self):
        for changes in product(CHANGES, repeat=3):
            changer, told = Changer((4, 1)), Told([(4, 1)], 1)
            for change in changes:
                if change == ("duplicate",):
                    changer, told = changer.duplicate(), told.copy()
                else:
                    self.assert_change(changer, told, change, changes)
            for _ in range(4):
                self.assert_change(changer, told, ("undo",), changes)
                self.assert_is_as_told(changer, told, changes)

    def test_wrong_numbers_in_between(self):
        changer, told = Changer((4, 1)), Told([(4, 1)], 1)
        for at, value in enumerate(wrong_numbers(1, 16)):
            name = ("put", "take")[at % 2]
            self.assert_raises_just(InvalidNumber, getattr(changer, name), value)
            self.assert_is_as_told(changer, told)
            self.assert_change(changer, told, ("mirror",))
            self.assert_is_as_told(changer, told)

    def test_a_long_history(self):
        changer, told = Changer((6, 3, 1)), Told([(6, 3, 1)], 1)
        for at in range(1000):
            self.assert_change(changer, told, CHANGES[at * at % 7])
        self.assert_is_as_told(changer, told)
        while len(told.path) > 1:
            self.assert_change(changer, told, ("undo",))
        self.assert_change(changer, told, ("undo",))
        self.assert_is_as_told(changer, Told([(6, 3, 1)], 1))

    def test_changers_do_not_share_their_state(self):
        given = (4, 1)
        one, other = Changer(given), Changer(given)
        one.put(2)
        self.assert_is_as_told(other, Told([(4, 1)], 1))
        self.assert_raises_just(NothingToUndo, other.undo)

    def test_a_wrong_partition_makes_no_changer_and_changes_none(self):
        changer = Changer((4, 1))
        changer.put(2)
        self.assert_raises_just(InvalidPartition, Changer, [4, 1])
        self.assert_is_as_told(changer, Told([(4, 1), (4, 2, 1)], 1))


if __name__ == "__main__":
    unittest.main()
