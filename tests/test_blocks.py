"""Tests of blocks, heads, areas and what is found (points 35 and 37 to 39, and 3 for them)."""

import unittest

import helper
from helper import modify, parts
from turnshelves.blocks import (
    area_size, area_start, found, head, read_block, read_head, region_start, write_block,
)
from turnshelves.codes import write_changes, write_image
from turnshelves.disk import Disk
from turnshelves.states import State

EMPTY = [0] * 64
GREAT = 2 ** 48 - 1
GREAT_BYTES = [255] * 6
ITEMS = [("relation", "r", ("a", "b"), 2), ("fact", "r", (1, 2)), ("layout", "l", ())]


def some(many, start=0):
    """So many bytes."""
    return [(start + 7 * number + number // 256) % 256 for number in range(many)]


class WriteBlockTest(unittest.TestCase):
    def test_bytes(self):
        self.assertEqual(write_block(1, []), [[0, 0, 0, 0, 0, 1, 0, 0, 0, 1, 0, 0, 0, 0] + [0] * 50])
        self.assertEqual(write_block(0x010203040506, [9]), [[1, 2, 3, 4, 5, 6, 0, 0, 0, 1, 0, 0, 0, 1, 9] + [0] * 49])
        self.assertEqual(write_block(GREAT, [8] * 50), [GREAT_BYTES + [0, 0, 0, 1, 0, 0, 0, 50] + [8] * 50])
        self.assertEqual(write_block(256, [8] * 50 + [7]), [
            [0, 0, 0, 0, 1, 0, 0, 0, 0, 2, 0, 0, 0, 51] + [8] * 50,
            [0, 0, 0, 0, 1, 0, 0, 0, 0, 2, 7] + [0] * 53,
        ])

    def test_sizes(self):
        for many, wanted in [
            (0, 1), (1, 1), (49, 1), (50, 1), (51, 2), (103, 2), (104, 2), (105, 3), (158, 3), (159, 4),
            (54 * 255 - 4, 255),
            (54 * 255 - 3, 256), (54 * 300, 301),
        ]:
            told = some(many)
            sectors = write_block(5, told)
            front = [0, 0, 0, 0, 0, 5, 0, 0, wanted // 256, wanted % 256]
            with self.subTest(many=many):
                self.assertEqual(len(sectors), wanted)
                self.assertEqual({len(sector) for sector in sectors}, {64})
                self.assertEqual([sector[:10] for sector in sectors], [front] * wanted)
                bytes_then = [byte for sector in sectors for byte in sector[10:]]
                self.assertEqual(bytes_then[:4], [0, many // 65536, many // 256 % 256, many % 256])
                self.assertEqual(bytes_then[4:4 + many], told)
                self.assertEqual(set(bytes_then[4 + many:]) | {0}, {0})
                self.assertEqual(read_block(sectors, 5), (told, wanted))

    def test_nothing_is_shared(self):
        told = [1, 2, 3]
        sectors = write_block(1, told)
        self.assertIs(type(sectors), list)
        sectors[0].clear()
        self.assertEqual(told, [1, 2, 3])
        told.append(4)
        self.assertEqual(write_block(1, told[:3])[0][14:18], [1, 2, 3, 0])


class ReadBlockTest(unittest.TestCase):
    def test_written_blocks(self):
        for turn in (1, 255, 256, 65536, GREAT):
            for many in (0, 1, 49, 50, 51, 103, 104, 105, 500):
                sectors = write_block(turn, some(many))
                told = read_block(sectors, turn)
                self.assertEqual(told, (some(many), len(sectors)))
                self.assertIs(type(told), tuple)
                self.assertIs(type(told[0]), list)

    def test_sectors_behind_the_block(self):
        sectors = write_block(3, some(60))
        for behind in ([EMPTY], [EMPTY] * 5, write_block(3, [1]), write_block(9, some(300))):
            self.assertEqual(read_block(sectors + behind, 3), (some(60), 2))

    def test_no_sectors(self):
        self.assertIsNone(read_block([], 1))
        self.assertIsNone(read_block([EMPTY], 1))
        self.assertIsNone(read_block([EMPTY] * 3, 1))

    def test_another_turn(self):
        sectors = write_block(5, some(200))
        for turn in (1, 4, 6, 5 + 256, 5 * 256, GREAT):
            self.assertIsNone(read_block(sectors, turn))
        other = write_block(6, some(200))
        self.assertEqual(len(sectors), 4)
        for at in range(4):
            self.assertIsNone(read_block(sectors[:at] + [other[at]] + sectors[at + 1:], 5))
            self.assertIsNone(read_block(sectors[:at] + [EMPTY] + sectors[at + 1:], 5))
        for at in range(6):
            for number in range(4):
                changed = [list(sector) for sector in sectors]
                changed[number][at] += 1
                self.assertIsNone(read_block(changed, 5))

    def test_a_sector_that_is_left_out(self):
        sectors = write_block(5, some(200))
        for at in range(1, 4):
            self.assertIsNone(read_block(sectors[:at], 5))
            self.assertIsNone(read_block(sectors[:at] + sectors[at + 1:], 5))
            self.assertIsNone(read_block(sectors[:at] + sectors[at + 1:] + [EMPTY], 5))
        # Without the first sector another one of the turn is looked at, and tells its own number.
        self.assertIsNone(read_block(sectors[1:], 5))

    def test_a_wrong_number_of_sectors(self):
        sectors = write_block(5, some(200))
        for number, wanted in [
            ([0, 0, 0, 0], None), ([0, 0, 0, 5], None), ([0, 0, 1, 4], None), ([1, 0, 0, 4], None), ([255] * 4, None),
            ([0, 0, 0, 3], None), ([0, 0, 0, 4], (some(200), 4)),
        ]:
            changed = [list(sector) for sector in sectors]
            changed[0][6:10] = number
            self.assertEqual(read_block(changed, 5), wanted)
        short = write_block(5, some(20)) + write_block(5, some(30))
        short[0][9] = 2
        self.assertEqual(read_block(short, 5), (some(20), 2))
        short[0][9] = 3
        self.assertIsNone(read_block(short, 5))

    def test_numbers_in_later_sectors_are_not_looked_at(self):
        sectors = write_block(5, some(200))
        for at in range(1, 4):
            sectors[at][6:10] = [at, 255, 0, 99]
        self.assertEqual(read_block(sectors, 5), (some(200), 4))

    def test_more_bytes_than_there_are(self):
        for many, most in [(10, 50), (60, 104), (200, 212)]:
            sectors = write_block(5, some(many))
            whole = [byte for sector in sectors for byte in sector[10:]][4:]
            self.assertEqual(len(whole), most)
            for length in (0, many - 1, many + 1, most - 1, most):
                sectors[0][10:14] = [0, 0, 0, length]
                self.assertEqual(read_block(sectors, 5), (whole[:length], len(sectors)))
            for length in ([0, 0, 0, most + 1], [0, 0, 1, 0], [0, 1, 0, 0], [1, 0, 0, 0], [255] * 4):
                sectors[0][10:14] = length
                self.assertIsNone(read_block(sectors, 5))

    def test_what_lies_behind_the_bytes_is_not_looked_at(self):
        sectors = write_block(5, some(60))
        sectors[1][30:] = [77] * 34
        self.assertEqual(read_block(sectors, 5), (some(60), 2))

    def test_blocks_behind_blocks(self):
        blocks = [some(many, many) for many in (200, 0, 51, 50, 105)]
        sectors = [sector for block in blocks for sector in write_block(7, block)]
        for block in blocks:
            told, many = read_block(sectors, 7)
            self.assertEqual(told, block)
            sectors = sectors[many:]
        self.assertIsNone(read_block(sectors, 7))

    def test_nothing_is_modified_or_shared(self):
        sectors = write_block(5, some(60))
        kept = [list(sector) for sector in sectors]
        read_block(sectors, 5)[0].clear()
        self.assertEqual(sectors, kept)
        self.assertEqual(read_block(sectors, 5), (some(60), 2))


class HeadTest(unittest.TestCase):
    def test_bytes(self):
        self.assertEqual(head(1, 0), [82, 85, 76, 69, 0, 0, 0, 0, 0, 1, 0] + [0] * 53)
        self.assertEqual(head(0x010203040506, 1), [82, 85, 76, 69, 1, 2, 3, 4, 5, 6, 1] + [0] * 53)
        self.assertEqual(head(GREAT, 1), [82, 85, 76, 69] + GREAT_BYTES + [1] + [0] * 53)

    def test_what_is_read(self):
        for turn in (1, 2, 255, 256, 65536 * 65536, GREAT):
            for area in (0, 1):
                self.assertEqual(read_head(head(turn, area)), (turn, area))
                self.assertIs(type(read_head(head(turn, area))), tuple)

    def test_what_is_no_head(self):
        for sector in [EMPTY, write_block(1, some(40))[0], [82] * 64, [255] * 64, some(64), head(0, 0), head(0, 1)]:
            self.assertIsNone(read_head(sector))
        for area in (2, 3, 255):
            self.assertIsNone(read_head(head(1, 0)[:10] + [area] + [0] * 53))

    def test_each_byte_of_a_head(self):
        for turn, area in [(1, 0), (300, 1)]:
            for at in list(range(4)) + list(range(11, 64)):
                for number in (1, 82, 128, 255):
                    sector = head(turn, area)
                    sector[at] = (sector[at] + number) % 256
                    self.assertIsNone(read_head(sector))
        for at in range(4, 10):
            sector = head(1, 0)
            sector[at] += 1
            self.assertEqual(read_head(sector), (1 + 256 ** (9 - at), 0))

    def test_nothing_is_modified_or_shared(self):
        sector = head(1, 0)
        read_head(sector)
        self.assertEqual(sector, head(1, 0))
        sector.clear()
        self.assertEqual(len(head(1, 0)), 64)


class PlaceTest(unittest.TestCase):
    def test_some_sizes(self):
        for size, first, many, second in [
            (60, 31, 14, 16), (61, 32, 15, 17), (62, 32, 15, 17), (63, 33, 15, 17), (64, 33, 15, 17), (65, 34, 16, 18),
            (100, 51, 24, 26), (399, 201, 99, 101), (400, 201, 99, 101),
        ]:
            with self.subTest(size=size):
                self.assertEqual(region_start(size), first)
                self.assertEqual(area_size(size), many)
                self.assertEqual(area_start(size, 0), 2)
                self.assertEqual(area_start(size, 1), second)

    def test_all_sizes(self):
        for size in range(60, 401):
            first = region_start(size)
            self.assertEqual(size - first, (size - 2) // 2)
            self.assertEqual(area_size(size), (first - 2) // 2)
            self.assertEqual(area_start(size, 1), 2 + area_size(size))
            self.assertLessEqual(area_start(size, 1) + area_size(size), first)


class FoundTest(unittest.TestCase):
    def put(self, disk, first, sectors):
        for at, sector in enumerate(sectors):
            disk.write(first + at, sector)

    def with_image(self, size=60, place=0, turn=4, area=0, commits=3, items=ITEMS):
        disk = Disk(size)
        block = write_block(turn, write_image(commits, State(items)))
        self.put(disk, area_start(size, area), block)
        disk.write(place, head(turn, area))
        return disk, area_start(size, area) + len(block)

    def check(self, disk, told, items):
        counts = disk.counts()
        result = found(disk)
        self.assertIs(type(result), tuple)
        self.assertEqual(result[:4], told)
        self.assertIs(type(result[4]), State)
        self.assertEqual(parts(result[4]), parts(State(items)))
        self.assertEqual(disk.counts(), counts)
        modify(result[4])
        self.assertEqual(parts(found(disk)[4]), parts(State(items)))

    def test_a_disk_without_a_head(self):
        self.assertIsNone(found(Disk(60)))
        disk = Disk(60)
        self.put(disk, 2, write_block(1, write_image(0, State())))
        self.assertIsNone(found(disk))
        for sector in (head(0, 0), some(64), head(1, 2)):
            disk.write(0, sector)
            disk.write(1, sector)
            self.assertIsNone(found(disk))
        # A head stands in the sectors 0 and 1 alone.
        for at in (2, 3, 16, 30, 31, 59):
            disk.write(at, head(1, 0))
            self.assertIsNone(found(disk))

    def test_an_image(self):
        for size in (60, 61, 101, 400):
            for place in (0, 1):
                for area in (0, 1):
                    disk, _ = self.with_image(size, place, 4, area)
                    self.check(disk, (place, 4, area, 3), ITEMS)
        disk, _ = self.with_image(commits=0, items=[])
        self.check(disk, (0, 4, 0, 0), [])

    def test_waiting_writes_are_found(self):
        disk, _ = self.with_image()
        self.assertGreater(disk.pending(), 1)
        self.check(disk, (0, 4, 0, 3), ITEMS)
        disk.sync()
        self.check(disk, (0, 4, 0, 3), ITEMS)

    def test_groups(self):
        disk, at = self.with_image()
        fact = ("fact", "r", (5, 5))
        groups = [[("comes", fact)], [("goes", (1, "r", (1, 2))), ("goes", (3, "l", ()))], [],
            [("comes", ("layout", "k", ()))]]
        items = [ITEMS, ITEMS + [fact], [ITEMS[0], fact], [ITEMS[0], fact], [ITEMS[0], fact, ("layout", "k", ())]]
        for number, group in enumerate(groups):
            self.check(disk, (0, 4, 0, 3 + number), items[number])
            block = write_block(4, write_changes(group))
            self.put(disk, at, block)
            at += len(block)
        self.check(disk, (0, 4, 0, 7), items[4])

    def test_groups_of_several_sectors(self):
        disk, at = self.with_image(400)
        facts = [("fact", "r", (number, "x" * 30)) for number in range(12)]
        for number in range(3):
            block = write_block(4, write_changes([("comes", fact) for fact in facts[4 * number:4 * number + 4]]))
            self.assertGreater(len(block), 2)
            self.put(disk, at, block)
            at += len(block)
            self.check(disk, (0, 4, 0, 4 + number), ITEMS + facts[:4 * number + 4])

    def test_a_group_that_is_not_whole(self):
        facts = [("fact", "r", (number, "x" * 30)) for number in range(4)]
        block = write_block(4, write_changes([("comes", fact) for fact in facts]))
        more = write_block(4, write_changes([("comes", ("fact", "r", (9, 9)))]))
        self.assertEqual(len(block), 4)
        for left_out in range(4):
            disk, at = self.with_image()
            for number, sector in enumerate(block):
                if number != left_out:
                    disk.write(at + number, sector)
            self.put(disk, at + 4, more)
            self.check(disk, (0, 4, 0, 3), ITEMS)

    def test_groups_of_another_turn(self):
        for turn in (3, 5, 4 + 256):
            disk, at = self.with_image()
            self.put(disk, at, write_block(turn, write_changes([("comes", ("fact", "r", (9, 9)))])))
            self.check(disk, (0, 4, 0, 3), ITEMS)
            # Behind it nothing is looked at.
            self.put(disk, at + 1, write_block(4, write_changes([("comes", ("fact", "r", (8, 8)))])))
            self.check(disk, (0, 4, 0, 3), ITEMS)

    def test_groups_end_with_the_area(self):
        for area in (0, 1):
            disk, at = self.with_image(60, 0, 4, area)
            many = 0
            end = area_start(60, area) + area_size(60)
            while at < end + 3:
                self.put(disk, at, write_block(4, write_changes([("comes", ("fact", "r", (7, at)))])))
                many += at < end
                at += 1
            facts = [("fact", "r", (7, end - many + number)) for number in range(many)]
            self.check(disk, (0, 4, area, 3 + many), ITEMS + facts)
            # A block that would go on behind the area is not read.
            disk, at = self.with_image(60, 0, 4, area)
            while at < end - 1:
                self.put(disk, at, write_block(4, write_changes([])))
                at += 1
            block = write_block(4, write_changes([("comes", ("fact", "r", ("y" * 30, "x" * 30)))]))
            self.assertEqual(len(block), 2)
            self.put(disk, at, block)
            self.assertEqual(found(disk)[4].facts["r"], [(1, 2)])

    def test_the_head_with_the_greater_turn(self):
        other = [("relation", "other", ("c",), 1)]
        for first, second, wanted in [(4, 5, 1), (5, 4, 0), (4, 260, 1), (256, 255, 0), (1, GREAT, 1)]:
            for area in (0, 1):
                disk, _ = self.with_image(60, 0, first, area)
                self.put(disk, area_start(60, 1 - area), write_block(second, write_image(9, State(other))))
                disk.write(1, head(second, 1 - area))
                if wanted == 0:
                    self.check(disk, (0, first, area, 3), ITEMS)
                else:
                    self.check(disk, (1, second, 1 - area, 9), other)

    def test_two_heads_with_equal_turns(self):
        other = [("relation", "other", ("c",), 1)]
        for area in (0, 1):
            disk, _ = self.with_image(60, 0, 4, area)
            self.put(disk, area_start(60, 1 - area), write_block(4, write_image(9, State(other))))
            disk.write(1, head(4, 1 - area))
            self.check(disk, (0, 4, area, 3), ITEMS)

    def test_a_sector_that_is_no_head_does_not_count(self):
        disk, _ = self.with_image(60, 1, 4, 1)
        for sector in (head(9, 2), some(64), head(GREAT, 0)[:63] + [1]):
            disk.write(0, sector)
            self.check(disk, (1, 4, 1, 3), ITEMS)

    def test_drawn_states(self):
        draw = helper.drawing(4)
        for _ in range(20):
            state = helper.drawn_state(draw, 4)
            disk = Disk(400)
            block = write_block(8, write_image(70, state))
            self.put(disk, area_start(400, 1), block)
            disk.write(1, head(8, 1))
            self.check(disk, (1, 8, 1, 70), state.all_items())


if __name__ == "__main__":
    unittest.main()
