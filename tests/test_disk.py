"""Tests of the disk (points 35 and 36, and 3 for it)."""

import itertools
import unittest

from turnshelves.disk import Disk
from turnshelves.errors import InvalidArgument, PowerOff, ShelfError

EMPTY = [0] * 64


def data(number):
    return [number] * 64


class Base(unittest.TestCase):
    def fails(self, action, *told):
        with self.assertRaises(PowerOff) as caught:
            action(*told)
        self.assertIsInstance(caught.exception, ShelfError)

    def check_off(self, disk):
        """All that needs power raises an error, and nothing else does."""
        self.assertIs(disk.is_on(), False)
        before = (disk.counts(), disk.losses(), disk.pending(), [disk.read(at) for at in range(disk.size())])
        for _ in range(2):
            self.fails(disk.write, 0, data(9))
            self.fails(disk.write, disk.size() - 1, data(9))
            self.fails(disk.sync)
            self.fails(disk.fail_after, 0)
            self.fails(disk.fail_after, 5)
        self.assertEqual((disk.counts(), disk.losses(), disk.pending()), before[:3])
        self.assertEqual([disk.read(at) for at in range(disk.size())], before[3])


class SizeTest(Base):
    def test_sizes(self):
        for size in (60, 61, 62, 100, 399, 400):
            disk = Disk(size)
            self.assertEqual(disk.size(), size)
            self.assertEqual([disk.read(at) for at in range(size)], [EMPTY] * size)

    def test_no_sizes(self):
        for size in [
            59, 401, 0, 1, -60, -1, 10 ** 9, True, False, None, 60.0, 100.5, "60", "", b"60", [60], (60,), {}, (),
            object(),
        ]:
            with self.subTest(size=size):
                with self.assertRaises(InvalidArgument) as caught:
                    Disk(size)
                self.assertIsInstance(caught.exception, ShelfError)

    def test_a_new_disk(self):
        disk = Disk(60)
        self.assertEqual(disk.pending(), 0)
        self.assertEqual(disk.counts(), (0, 0, 0, 0))
        self.assertIs(type(disk.counts()), tuple)
        self.assertEqual(disk.losses(), 0)
        self.assertIs(disk.is_on(), True)

    def test_two_disks_share_nothing(self):
        one, other = Disk(60), Disk(60)
        one.write(5, data(1))
        one.sync()
        self.assertEqual(other.read(5), EMPTY)
        self.assertEqual(one.read(6), EMPTY)
        self.assertEqual(other.counts(), (0, 0, 0, 0))


class WriteTest(Base):
    def test_reads_of_waiting_writes(self):
        disk = Disk(60)
        self.assertIsNone(disk.write(3, data(1)))
        self.assertEqual((disk.read(3), disk.pending()), (data(1), 1))
        disk.write(4, data(2))
        disk.write(3, data(3))
        self.assertEqual((disk.read(3), disk.read(4), disk.read(5)), (data(3), data(2), EMPTY))
        self.assertEqual(disk.pending(), 3)
        self.assertIsNone(disk.sync())
        self.assertEqual((disk.read(3), disk.read(4), disk.pending()), (data(3), data(2), 0))
        disk.write(3, EMPTY)
        self.assertEqual((disk.read(3), disk.pending()), (EMPTY, 1))

    def test_lists_are_copied(self):
        disk = Disk(60)
        sector = data(1)
        disk.write(3, sector)
        sector[0] = 77
        self.assertEqual(disk.read(3), data(1))
        disk.read(3)[0] = 78
        disk.read(3).clear()
        self.assertEqual(disk.read(3), data(1))
        disk.sync()
        sector[1] = 79
        disk.read(3).clear()
        self.assertEqual(disk.read(3), data(1))
        disk.power([])
        disk.read(3).clear()
        disk.read(7)[0] = 5
        self.assertEqual((disk.read(3), disk.read(7)), (data(1), EMPTY))

    def test_a_waiting_list_is_a_copy(self):
        disk = Disk(60)
        sector = data(1)
        disk.write(3, sector)
        sector[0] = 77
        disk.power([True])
        self.assertEqual(disk.read(3), data(1))

    def test_what_was_synced_stays(self):
        disk = Disk(60)
        disk.write(3, data(1))
        disk.sync()
        disk.write(3, data(2))
        disk.power([])
        self.assertEqual(disk.read(3), data(1))


class CountTest(Base):
    def test_each_count(self):
        for size, first in [(60, 31), (61, 32), (62, 32), (63, 33), (400, 201), (399, 201)]:
            disk = Disk(size)
            with self.subTest(size=size):
                for index, wanted in [
                    (0, (0, 0, 1, 0)), (first - 1, (0, 0, 2, 0)), (first, (0, 1, 2, 0)), (size - 1, (0, 2, 2, 0)),
                    (first, (0, 3, 2, 0)), (2, (0, 3, 3, 0)),
                ]:
                    disk.write(index, EMPTY)
                    self.assertEqual(disk.counts(), wanted)
                disk.sync()
                self.assertEqual(disk.counts(), (0, 3, 3, 1))
                disk.sync()
                self.assertEqual(disk.counts(), (0, 3, 3, 2))

    def test_reads_are_noted_alone(self):
        disk = Disk(60)
        for index in range(60):
            disk.read(index)
        self.assertEqual(disk.counts(), (0, 0, 0, 0))
        self.assertIsNone(disk.note_reads(7))
        disk.note_reads(0)
        disk.note_reads(5)
        self.assertEqual(disk.counts(), (12, 0, 0, 0))
        disk.pending()
        disk.size()
        self.assertEqual(disk.counts(), (12, 0, 0, 0))

    def test_reads_are_no_operations(self):
        disk = Disk(60)
        disk.fail_after(1)
        disk.note_reads(9)
        disk.read(0)
        disk.write(0, EMPTY)
        self.assertTrue(disk.is_on())
        self.fails(disk.sync)

    def test_what_is_cut_off_is_not_counted(self):
        disk = Disk(60)
        disk.write(1, data(1))
        disk.fail_after(0)
        self.fails(disk.write, 59, data(1))
        self.assertEqual(disk.counts(), (0, 0, 1, 0))
        disk.power([])
        disk.fail_after(0)
        self.fails(disk.write, 1, data(1))
        disk.power([])
        disk.fail_after(0)
        self.fails(disk.sync)
        self.assertEqual(disk.counts(), (0, 0, 1, 0))

    def test_losses_leave_the_counts(self):
        disk = Disk(60)
        disk.write(1, data(1))
        disk.write(50, data(1))
        disk.sync()
        disk.note_reads(3)
        disk.power([True])
        self.assertEqual(disk.counts(), (3, 1, 1, 1))
        # Writes that arrive were counted when they were made.
        disk.write(2, data(1))
        disk.power([True])
        self.assertEqual(disk.counts(), (3, 1, 2, 1))

    def test_off(self):
        disk = Disk(60)
        disk.fail_after(0)
        self.fails(disk.sync)
        disk.note_reads(4)
        self.assertEqual(disk.counts(), (4, 0, 0, 0))
        self.check_off(disk)


class PowerTest(Base):
    WRITES = [(3, 1), (4, 2), (3, 3), (59, 4), (3, 5)]

    def written(self):
        disk = Disk(60)
        disk.write(3, data(100))
        disk.write(5, data(101))
        disk.sync()
        for index, number in self.WRITES:
            disk.write(index, data(number))
        return disk

    def wanted(self, kept):
        """What is read behind a loss."""
        sectors = {3: 100, 4: 0, 5: 101, 59: 0}
        for (index, number), arrives in zip(self.WRITES, kept):
            if arrives:
                sectors[index] = number
        return sectors

    def test_each_subset_of_the_waiting_writes(self):
        for kept in itertools.product([False, True], repeat=5):
            for off in (False, True):
                disk = self.written()
                if off:
                    disk.fail_after(0)
                    self.fails(disk.sync)
                told = list(kept)
                with self.subTest(kept=kept, off=off):
                    self.assertIsNone(disk.power(told))
                    self.assertEqual(told, list(kept))
                    for index, number in self.wanted(kept).items():
                        self.assertEqual(disk.read(index), data(number))
                    self.assertEqual((disk.pending(), disk.is_on(), disk.losses()), (0, True, 1))

    def test_kept_that_is_too_short_or_too_long(self):
        for kept in [[], [True], [True, False, True], [False, False, False, True], [True] * 5 + [True] * 20,
                     [False] * 5 + [True, True]]:
            disk = self.written()
            disk.power(kept)
            for index, number in self.wanted(kept + [False] * 5).items():
                self.assertEqual(disk.read(index), data(number))
            self.assertEqual(disk.pending(), 0)
        disk = Disk(60)
        disk.power([True] * 9)
        self.assertEqual([disk.read(at) for at in range(60)], [EMPTY] * 60)

    def test_what_arrived_stays(self):
        disk = self.written()
        disk.power([True, True, False, False, False])
        disk.power([])
        self.assertEqual((disk.read(3), disk.read(4)), (data(1), data(2)))
        disk.write(3, data(50))
        disk.power([False])
        self.assertEqual(disk.read(3), data(1))

    def test_what_is_lost_does_not_come_back(self):
        disk = self.written()
        disk.power([])
        disk.sync()
        disk.power([True] * 9)
        self.assertEqual((disk.read(3), disk.read(4), disk.read(5)), (data(100), EMPTY, data(101)))

    def test_waiting_while_power_is_off(self):
        disk = self.written()
        disk.fail_after(0)
        self.fails(disk.write, 5, data(77))
        self.assertEqual(disk.pending(), 5)
        self.assertEqual([disk.read(at) for at in (3, 4, 5, 59)], [data(5), data(2), data(101), data(4)])
        self.check_off(disk)
        disk.power([True] * 9)
        self.assertEqual([disk.read(at) for at in (3, 4, 5, 59)], [data(5), data(2), data(101), data(4)])

    def test_losses(self):
        disk = Disk(60)
        for number in range(1, 4):
            disk.power([])
            self.assertEqual((disk.losses(), disk.is_on()), (number, True))
        disk.fail_after(0)
        self.assertEqual(disk.losses(), 3)
        self.fails(disk.sync)
        self.assertEqual((disk.losses(), disk.is_on()), (4, False))
        self.fails(disk.sync)
        self.assertEqual(disk.losses(), 4)
        disk.power([])
        self.assertEqual((disk.losses(), disk.is_on()), (4, True))

    def test_power_leaves_no_failure_set(self):
        disk = Disk(60)
        disk.fail_after(2)
        disk.power([])
        for _ in range(5):
            disk.sync()
        disk.fail_after(1)
        disk.sync()
        self.fails(disk.sync)
        disk.power([])
        for _ in range(5):
            disk.sync()
        self.assertEqual((disk.losses(), disk.is_on()), (2, True))


class FailTest(Base):
    def test_after_some_operations(self):
        actions = [
            lambda disk: disk.write(1, data(1)), lambda disk: disk.sync(), lambda disk: disk.write(40, data(2)),
            lambda disk: disk.write(2, data(3)), lambda disk: disk.sync(),
        ]
        counts = [(0, 0, 0, 0), (0, 0, 1, 0), (0, 0, 1, 1), (0, 1, 1, 1), (0, 1, 2, 1), (0, 1, 2, 2)]
        waiting = [0, 1, 0, 1, 2, 0]
        for operations in range(6):
            disk = Disk(60)
            self.assertIsNone(disk.fail_after(operations))
            with self.subTest(operations=operations):
                for action in actions[:operations]:
                    action(disk)
                    self.assertTrue(disk.is_on())
                if operations < 5:
                    self.fails(actions[operations], disk)
                    self.check_off(disk)
                self.assertEqual(disk.counts(), counts[operations])
                self.assertEqual(disk.pending(), waiting[operations])
                self.assertEqual(disk.losses(), int(operations < 5))

    def test_a_sync_that_is_cut_off_is_not_made(self):
        disk = Disk(60)
        disk.write(1, data(1))
        disk.fail_after(0)
        self.fails(disk.sync)
        self.assertEqual(disk.pending(), 1)
        disk.power([False])
        self.assertEqual(disk.read(1), EMPTY)

    def test_a_write_that_is_cut_off_is_not_made(self):
        disk = Disk(60)
        disk.fail_after(0)
        self.fails(disk.write, 1, data(1))
        self.assertEqual((disk.read(1), disk.pending()), (EMPTY, 0))
        disk.power([True])
        self.assertEqual(disk.read(1), EMPTY)

    def test_one_number_replaces_another(self):
        for first, second in [(0, 3), (5, 1), (2, 2), (1, 0), (100, 4)]:
            disk = Disk(60)
            disk.fail_after(first)
            disk.fail_after(second)
            for _ in range(second):
                disk.sync()
            self.fails(disk.sync)
        disk = Disk(60)
        disk.fail_after(2)
        disk.sync()
        disk.fail_after(2)
        disk.sync()
        disk.sync()
        self.fails(disk.sync)

    def test_nothing_fails_unless_it_is_set(self):
        disk = Disk(60)
        for number in range(300):
            disk.write(number % 60, data(number % 256))
        self.assertEqual((disk.is_on(), disk.losses(), disk.pending()), (True, 0, 300))


if __name__ == "__main__":
    unittest.main()
