"""Tests of the store (points 40 to 43, with 15 and 20 where they lean on them, and 3)."""

import copy
import itertools
import unittest

import helper
from helper import Low, modify, parts
from turnshelves.blocks import area_size, area_start, found, head, region_start, write_block
from turnshelves.codes import write_changes, write_image
from turnshelves.disk import Disk
from turnshelves.errors import DiskFull, PowerOff, ShelfError
from turnshelves.shapes import room_needed
from turnshelves.states import State
from turnshelves.store import Store

EMPTY = [0] * 64
RELATION = ("relation", "r", ("a", "b"), 2)


def fact(number, text=""):
    return ("comes", ("fact", "r", (number, text)))


def gone(number, text=""):
    return ("goes", (1, "r", (number, text)))


class Base(unittest.TestCase):
    def check(self, disk, store, low):
        """The store and the disk are as they should be."""
        start = region_start(disk.size())
        self.assertEqual([disk.read(at) for at in range(start)], low.sectors)
        self.assertEqual([disk.read(at) for at in range(start, disk.size())], [EMPTY] * (disk.size() - start))
        self.assertEqual(disk.counts(), (low.reads, 0, low.logs, low.syncs))
        self.assertEqual(disk.pending(), 0)
        self.assertEqual(store.commits, low.commits)
        self.assertEqual(parts(store.state), parts(low.state))
        place, turn, area, commits, state = found(disk)
        self.assertEqual((place, area, turn, commits), low.head + (low.turn, low.commits))
        self.assertEqual(parts(state), parts(low.state))


class OpenTest(Base):
    def test_the_first_opening(self):
        for size in (60, 61, 62, 63, 400):
            disk, low = Disk(size), Low(size)
            store = Store(disk)
            low.open()
            self.check(disk, store, low)
            self.assertEqual(disk.read(0), head(1, 0))
            self.assertEqual(disk.read(1), EMPTY)
            self.assertEqual(disk.read(2), [0, 0, 0, 0, 0, 1, 0, 0, 0, 1, 0, 0, 0, 2] + [0] * 50)
            self.assertEqual(disk.counts(), (region_start(size), 0, 2, 2))
            self.assertEqual((store.commits, store.state.all_items()), (0, []))
            self.assertIs(type(store.state), State)

    def test_further_openings(self):
        disk, low = Disk(60), Low(60)
        for number in range(6):
            store = Store(disk)
            low.open()
            self.check(disk, store, low)
            self.assertEqual(low.head, (number % 2, number % 2))
            self.assertEqual(low.turn, number + 1)

    def test_openings_with_commits_between(self):
        for size in (60, 101):
            disk, low = Disk(size), Low(size)
            for number in range(5):
                store = Store(disk)
                low.open()
                self.check(disk, store, low)
                changes = [fact(number), gone(number - 1)] if number else [("comes", RELATION)]
                for _ in range(number):
                    store.commit(changes)
                    low.commit(changes)
                    self.check(disk, store, low)

    def test_a_head_with_other_turns_in_the_areas(self):
        # Sectors of cut off blocks have turns that no head tells.
        for area, turn in [(0, 1), (0, 5), (1, 5), (1, 2 ** 40)]:
            for at in (0, 3, 13):
                disk, low = Disk(60), Low(60)
                store = Store(disk)
                low.open()
                store.commit([("comes", RELATION)])
                low.commit([("comes", RELATION)])
                sector = write_block(turn, [1] * 500)[3]
                index = area_start(60, area) + at
                if low.sectors[index] != EMPTY:
                    continue
                disk.write(index, sector)
                disk.sync()
                low.sectors[index] = sector
                low.logs += 1
                low.syncs += 1
                store = Store(disk)
                low.open()
                self.check(disk, store, low)
                self.assertEqual(low.turn, max(turn, 1) + 1)

    def test_turns_outside_of_the_areas_do_not_count(self):
        # On a disk of 60 sectors the last one of the low part is in no area.
        disk, low = Disk(60), Low(60)
        Store(disk)
        low.open()
        for index in (30, 31, 59):
            disk.write(index, write_block(99, [])[0])
        disk.sync()
        Store(disk)
        self.assertEqual(found(disk)[1], 2)

    def test_a_head_with_a_greater_turn_than_the_sectors(self):
        disk = Disk(60)
        disk.write(2, write_block(7, write_image(4, State([RELATION])))[0])
        disk.write(0, head(7, 0))
        disk.write(1, head(6, 1))
        disk.sync()
        store = Store(disk)
        self.assertEqual((store.commits, store.state.all_items()), (4, [RELATION]))
        self.assertEqual(found(disk)[:4], (1, 8, 1, 4))
        self.assertEqual(disk.read(1), head(8, 1))

    def test_without_a_head_turn_1_and_area_0(self):
        # A first opening that was cut off left its image, and perhaps its turn, behind.
        for sectors in ([(2, write_block(1, [0, 0])[0])],
                [(2, write_block(9, [0, 0])[0]), (20, write_block(5, [])[0])]):
            disk = Disk(60)
            for index, sector in sectors:
                disk.write(index, sector)
            disk.sync()
            store = Store(disk)
            self.assertEqual(found(disk)[:4], (0, 1, 0, 0))
            self.assertEqual(disk.read(2), write_block(1, write_image(0, State()))[0])
            self.assertEqual((store.commits, store.state.all_items()), (0, []))

    def test_power_is_off(self):
        disk = Disk(60)
        disk.fail_after(0)
        with self.assertRaises(PowerOff):
            disk.sync()
        for _ in range(2):
            with self.assertRaises(PowerOff) as caught:
                Store(disk)
            self.assertIsInstance(caught.exception, ShelfError)
            self.assertEqual((disk.counts(), disk.pending(), disk.losses()), ((0, 0, 0, 0), 0, 1))


class CommitTest(Base):
    def opened(self, size=60):
        disk, low = Disk(size), Low(size)
        store = Store(disk)
        low.open()
        return disk, store, low

    def commit(self, disk, store, low, changes):
        kept = copy.deepcopy(changes)
        self.assertTrue(store.fits(changes))
        self.check(disk, store, low)
        self.assertIsNone(store.commit(changes))
        renewed = low.commit(changes)
        self.check(disk, store, low)
        self.assertEqual(changes, kept)
        return renewed

    def test_groups(self):
        disk, store, low = self.opened()
        self.assertFalse(self.commit(disk, store, low, [("comes", RELATION)]))
        self.assertEqual(disk.counts()[2:], (3, 3))
        self.assertFalse(self.commit(disk, store, low, [fact(1), fact(2, "x" * 30), fact(3, "y" * 30)]))
        self.assertEqual(disk.counts()[2:], (5, 4))
        self.assertFalse(self.commit(disk, store, low, []))
        self.assertFalse(self.commit(disk, store, low, [gone(1), gone(9)]))
        self.assertEqual(store.commits, 4)
        self.assertEqual(store.state.facts, {"r": [(2, "x" * 30), (3, "y" * 30)]})

    def test_new_images(self):
        for size in (60, 61, 62, 90):
            disk, store, low = self.opened(size)
            renewals = []
            for number in range(60):
                changes = [fact(number), gone(number - 3)] if number else [("comes", RELATION)]
                if self.commit(disk, store, low, changes):
                    renewals.append(number)
            # An image of one sector and groups of one sector fill an area.
            many = area_size(size)
            self.assertEqual(renewals[0], many - 1)
            self.assertGreater(len(renewals), 1)
            self.assertEqual(low.turn, 1 + len(renewals))

    def test_a_group_that_just_fits(self):
        for more in (0, 1):
            disk, store, low = self.opened()
            self.commit(disk, store, low, [("comes", RELATION)])
            # The area has 14 sectors, of which 2 are taken: 12 are left, for 12 * 54 - 4 bytes.
            changes, left = [], 12 * 54 - 4
            while len(write_changes(changes)) < left - 60:
                changes.append(fact(len(changes), "z" * 30))
            left -= len(write_changes(changes)) - more
            changes.append(("comes", ("relation", "q", ("x" * 12,) * 1, 1)))
            extra = left - (len(write_changes(changes)) - len(write_changes(changes[:-1])))
            changes[-1] = ("comes", ("relation", "q", ("x" * (12 + extra),), 1))
            self.assertEqual(len(write_changes(changes)), 12 * 54 - 4 + more)
            self.assertEqual(self.commit(disk, store, low, changes), more == 1)
            if more == 0:
                self.assertEqual(low.taken, 14)
                self.assertTrue(self.commit(disk, store, low, []))

    def test_behind_an_opening(self):
        disk, store, low = self.opened()
        for number in range(40):
            if number % 7 == 6:
                store = Store(disk)
                low.open()
                self.check(disk, store, low)
            self.commit(disk, store, low, [fact(number, "w" * 20), gone(number - 2, "w" * 20)] if number else [
                ("comes", RELATION)])

    def test_drawn_commits(self):
        draw = helper.drawing(6)
        renewals = groups = full = 0
        for size in (130, 201, 300, 400):
            disk, store, low = self.opened(size)
            for _ in range(60):
                items = helper.drawn_state(draw, 3).all_items()
                changes = [("comes", item) for item in items if draw.randrange(3) == 0]
                olds = [item for item in store.state.all_items() if draw.randrange(3) == 0]
                keys = [(["relation", "fact", "structure", "layout"].index(item[0]), item[1],
                         item[2] if item[0] == "fact" else ()) for item in olds]
                changes += [("goes", key) for key in keys]
                made = store.state.change(changes)
                if room_needed(made) > size - region_start(size):
                    self.assertFalse(store.fits(changes))
                    with self.assertRaises(DiskFull):
                        store.commit(changes)
                    self.check(disk, store, low)
                    full += 1
                elif self.commit(disk, store, low, changes):
                    renewals += 1
                else:
                    groups += 1
                if draw.randrange(25) == 0:
                    store = Store(disk)
                    low.open()
        self.assertGreater(min(renewals, groups, full), 0, (renewals, groups, full))


class FullTest(Base):
    def image_of(self, size, more):
        """Changes after which the image has just as many bytes as an area can hold, and some more."""
        wanted = area_size(size) * 54 - 4 + more
        changes = [("comes", RELATION)]
        while True:
            bytes_now = len(write_image(1, State().change(changes)))
            if bytes_now + 200 > wanted:
                break
            changes.append(fact(1000 + len(changes), "t" * 30))
        for length in range(1, 300):
            told = changes + [("comes", ("relation", "s", ("c" * length,), 1))]
            if len(write_image(1, State().change(told))) == wanted:
                return told
        raise AssertionError("no such image")

    def test_the_edge_of_an_area(self):
        for size in (60, 61, 150):
            disk, low = Disk(size), Low(size)
            store = Store(disk)
            low.open()
            for more in (1, 2, 54):
                changes = self.image_of(size, more)
                self.assertIs(store.fits(changes), False)
                for _ in range(2):
                    with self.assertRaises(DiskFull) as caught:
                        store.commit(changes)
                    self.assertIsInstance(caught.exception, ShelfError)
                    self.check(disk, store, low)
            changes = self.image_of(size, 0)
            self.assertIs(store.fits(changes), True)
            self.check(disk, store, low)
            store.commit(changes)
            self.assertTrue(low.commit(changes))
            self.check(disk, store, low)
            self.assertEqual(low.taken, area_size(size))
            # The next opening writes this image whole.
            store = Store(disk)
            low.open()
            self.check(disk, store, low)
            # Now that the area is full each further byte is too much, and less is not.
            self.assertIs(store.fits([fact(1)]), False)
            self.assertIs(store.fits([("goes", (0, "s", ()))]), True)
            with self.assertRaises(DiskFull):
                store.commit([fact(1)])
            self.check(disk, store, low)

    def test_the_number_of_commits_after_it_counts(self):
        # The number 128 has two bytes, and 127 one.
        disk = Disk(60)
        store = Store(disk)
        for _ in range(125):
            store.commit([])
        changes = self.image_of(60, 0)
        self.assertEqual(store.commits, 125)
        store.commit(changes)
        store.commit([])
        self.assertEqual(store.commits, 127)
        counts = disk.counts()
        self.assertIs(store.fits([]), False)
        with self.assertRaises(DiskFull):
            store.commit([])
        self.assertEqual((disk.counts(), store.commits), (counts, 127))
        self.assertIs(store.fits([("goes", (0, "s", ()))]), True)

    def test_the_edge_of_the_region(self):
        for size in (60, 61, 101):
            many = (size - 2) // 2
            disk, low = Disk(size), Low(size)
            store = Store(disk)
            low.open()
            structure = ("structure", "s", "r", ("a",), many - 2, 1)
            changes = [("comes", RELATION), ("comes", structure)]
            self.assertEqual(room_needed(State().change(changes)), many)
            self.assertIs(store.fits(changes), True)
            more = changes + [("comes", ("relation", "q", ("a",), 1))]
            self.assertIs(store.fits(more), False)
            with self.assertRaises(DiskFull):
                store.commit(more)
            self.check(disk, store, low)
            store.commit(changes)
            low.commit(changes)
            self.check(disk, store, low)
            for change in [("comes", ("relation", "r", ("a", "b"), 3)), ("comes", structure[:5] + (2,))]:
                self.assertIs(store.fits([change]), False)
                with self.assertRaises(DiskFull):
                    store.commit([change])
                self.check(disk, store, low)
            self.assertIs(store.fits([("comes", ("relation", "r", ("a", "b"), 1)), fact(1)]), True)
            # Layouts and facts have no place.
            store.commit([fact(1), ("comes", ("layout", "l", ("s",)))])

    def test_power_that_is_off_is_told_first(self):
        disk = Disk(60)
        store = Store(disk)
        disk.fail_after(0)
        with self.assertRaises(PowerOff):
            store.commit([("comes", RELATION)])
        for changes in ([("comes", RELATION)], [("comes", ("relation", "q", ("a",), 40))]):
            with self.assertRaises(PowerOff):
                store.commit(changes)
            self.assertEqual((store.commits, store.state.all_items()), (0, []))

    def test_it_goes_on_behind_a_full_disk(self):
        disk, low = Disk(60), Low(60)
        store = Store(disk)
        low.open()
        store.commit([("comes", RELATION)])
        low.commit([("comes", RELATION)])
        with self.assertRaises(DiskFull):
            store.commit([("comes", ("relation", "q", ("a",), 40))])
        for number in range(20):
            store.commit([fact(number), gone(number - 1)])
            low.commit([fact(number), gone(number - 1)])
            self.check(disk, store, low)


class SharingTest(Base):
    def test_changes_and_states(self):
        disk = Disk(60)
        store = Store(disk)
        changes = [("comes", RELATION), fact(1)]
        store.commit(changes)
        kept = store.state
        changes.clear()
        store.commit([fact(2)])
        self.assertEqual(kept.facts, {"r": [(1, "")]})
        modify(kept)
        self.assertEqual(store.state.facts, {"r": [(1, ""), (2, "")]})
        modify(found(disk)[4])
        self.assertEqual(Store(disk).state.facts, {"r": [(1, ""), (2, "")]})

    def test_two_disks(self):
        one, other = Disk(60), Disk(60)
        first, second = Store(one), Store(other)
        first.commit([("comes", RELATION)])
        self.assertEqual((second.commits, second.state.all_items()), (0, []))


class PowerTest(Base):
    """Point 43, for each operation and each subset of what waits there."""

    def subsets(self, disk):
        many = disk.pending()
        if many <= 4:
            return [list(kept) for kept in itertools.product([False, True], repeat=many)]
        ends = [[True] * at + [False] * (many - at) for at in range(many + 1)]
        alone = [[at == place for at in range(many)] for place in range(many)]
        others = [[at != place for at in range(many)] for place in range(many)]
        return ends + alone + others + [[at % 2 == odd for at in range(many)] for odd in (0, 1)]

    def told(self, disk):
        """What is found, as something that can be compared."""
        result = found(disk)
        if result is None:
            return None
        return (result[3], tuple(result[4].all_items()))

    def cut(self, disk, act):
        """All disks that can be behind power that fails at an operation of an act."""
        operations, ended = 0, False
        while not ended:
            other = copy.deepcopy(disk)
            other.fail_after(operations)
            try:
                act(other)
                ended = True
            except PowerOff:
                self.assertEqual(other.losses(), disk.losses() + 1)
                for kept in self.subsets(other):
                    lost = copy.deepcopy(other)
                    lost.power(kept)
                    yield operations, lost
            operations += 1

    def test_the_first_opening(self):
        seen = set()
        for _, disk in self.cut(Disk(60), Store):
            seen.add(self.told(disk))
            store = Store(disk)
            self.assertEqual((store.commits, store.state.all_items()), (0, []))
            self.assertEqual(self.told(disk), (0, ()))
        self.assertEqual(seen, {None, (0, ())})

    def test_further_openings(self):
        disk = Disk(60)
        store = Store(disk)
        store.commit([("comes", RELATION), fact(1, "x" * 30), fact(2, "y" * 30)])
        store.commit([gone(1, "x" * 30), fact(5)])
        wanted = self.told(disk)
        many = 0
        for _, first in self.cut(disk, Store):
            self.assertEqual(self.told(first), wanted)
            for _, second in self.cut(first, Store):
                self.assertEqual(self.told(second), wanted)
                many += 1
            store = Store(first)
            self.assertEqual((store.commits, tuple(store.state.all_items())), wanted)
            store.commit([fact(7)])
            self.assertEqual(self.told(first)[0], 3)
        self.assertGreater(many, 50)

    def with_commits(self, many, text=""):
        disk = Disk(60)
        store = Store(disk)
        store.commit([("comes", RELATION)])
        for number in range(many):
            store.commit([fact(number, text), gone(number - 2, text)])
        return disk, store

    def check_commit(self, disk, store, changes):
        """A commit with power that fails at each of its operations."""
        before = self.told(disk)
        after = (store.commits + 1, tuple(store.state.change(changes).all_items()))
        seen = set()
        operations, ended = 0, False
        while not ended:
            lost, other = copy.deepcopy((disk, store))
            lost.fail_after(operations)
            try:
                other.commit(changes)
                ended = True
                self.assertEqual(self.told(lost), after)
            except PowerOff:
                self.assertEqual((other.commits, other.state.all_items()), (before[0], list(before[1])))
                for kept in self.subsets(lost):
                    disk_then = copy.deepcopy(lost)
                    disk_then.power(kept)
                    told = self.told(disk_then)
                    self.assertIn(told, (before, after))
                    seen.add(told)
                    again = Store(disk_then)
                    self.assertEqual((again.commits, tuple(again.state.all_items())), told)
                    again.commit([fact(77)])
                    self.assertEqual(self.told(disk_then)[0], told[0] + 1)
            operations += 1
        return seen, (before, after), operations - 1

    def test_a_commit_as_a_group(self):
        for text in ("", "x" * 30):
            disk, store = self.with_commits(3)
            changes = [fact(number, text) for number in (10, 11, 12)]
            seen, both, operations = self.check_commit(disk, store, changes)
            self.assertEqual(seen, set(both))
            self.assertEqual(operations, len(write_block(1, write_changes(changes))) + 1)

    def test_a_commit_with_a_new_image(self):
        disk, store = self.with_commits(12)
        seen, both, operations = self.check_commit(disk, store, [fact(50, "x" * 30), fact(51, "y" * 30)])
        self.assertEqual(seen, set(both))
        self.assertGreater(operations, 5)
        self.assertEqual(found(disk)[1], 1)

    def test_power_that_fails_again_within_the_opening(self):
        disk, store = self.with_commits(2)
        changes = [fact(number, "x" * 30) for number in (10, 11, 12)]
        before = self.told(disk)
        after = (store.commits + 1, tuple(store.state.change(changes).all_items()))
        many = 0
        for operations in range(5):
            lost, other = copy.deepcopy((disk, store))
            lost.fail_after(operations)
            try:
                other.commit(changes)
            except PowerOff:
                pass
            for kept in self.subsets(lost):
                first = copy.deepcopy(lost)
                first.power(kept)
                told = self.told(first)
                self.assertIn(told, (before, after))
                for _, second in self.cut(first, Store):
                    self.assertEqual(self.told(second), told)
                    for _, third in list(self.cut(second, Store))[::5]:
                        self.assertEqual(self.told(third), told)
                        many += 1
                    self.assertEqual(self.told(second), told)
        self.assertGreater(many, 200)

    def test_drawn_lives_of_a_disk(self):
        draw = helper.drawing(8)
        for _ in range(40):
            disk = Disk(draw.choice([60, 61, 75]))
            told = [(0, ())]
            for _ in range(12):
                if draw.randrange(3):
                    disk.fail_after(draw.randrange(30))
                try:
                    store = Store(disk)
                    self.assertIn((store.commits, tuple(store.state.all_items())), told)
                    told = [(store.commits, tuple(store.state.all_items()))]
                    if store.commits == 0:
                        self.commit(store, told, [("comes", RELATION)])
                    for _ in range(draw.randrange(20)):
                        number = draw.randrange(6)
                        self.commit(store, told, [draw.choice([fact, gone])(number, "u" * draw.choice([0, 30]))])
                except PowerOff:
                    pass
                disk.power([draw.randrange(2) == 1 for _ in range(disk.pending())])

    def commit(self, store, told, changes):
        told.append((store.commits + 1, tuple(store.state.change(changes).all_items())))
        store.commit(changes)
        del told[0]


if __name__ == "__main__":
    unittest.main()
