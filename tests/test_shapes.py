"""Tests of shapes and places (points 16 to 20, and 3 for them)."""

import copy
import random
import unittest

from turnshelves.shapes import (
    bucket, bucket_of_values, pack, places, relation_shape, room_needed, structure_shape,
)
from turnshelves.states import State
from turnshelves.values import row_key

EMPTY = [0] * 64


def sector(*data):
    """A sector that begins with some bytes."""
    return list(data) + [0] * (64 - len(data))


def row_of(many):
    """A row of one string whose code has so many bytes."""
    return ("k" * (many - 3),)


def code_of(many):
    return [1, 1, many - 3] + [107] * (many - 3)


def wide_row(many):
    """A row of two strings whose code has so many bytes."""
    return ("j" * 30, "k" * (many - 35))


def wide_code(many):
    return [2, 1, 30] + [106] * 30 + [1, many - 35] + [107] * (many - 35)


def state_of(rows, room=3, structures=()):
    items = [("relation", "r", ("a", "b"), room)]
    items += [("fact", "r", row) for row in rows]
    return State(items + [("structure", *structure) for structure in structures])


def parts(state):
    return copy.deepcopy((state.relations, state.facts, state.structures, state.layouts))


class PackTest(unittest.TestCase):
    def test_no_rows(self):
        self.assertEqual(pack([]), [])

    def test_bytes(self):
        self.assertEqual(pack([(1,)]), [sector(1, 1, 0, 0, 1)])
        self.assertEqual(pack([()]), [sector(1, 0)])
        self.assertEqual(pack([(1,), (-300, "ab"), ("",)]), [
            sector(3, 1, 0, 0, 1, 2, 0, 1, 172, 2, 1, 2, 97, 98, 1, 1, 0),
        ])

    def test_rows_in_the_order_of_the_list(self):
        self.assertEqual(pack([(2,), (1,), ("a",), (0,)]), [
            sector(4, 1, 0, 0, 2, 1, 0, 0, 1, 1, 1, 1, 97, 1, 0, 0, 0),
        ])
        self.assertEqual(pack([(1,), (1,)]), [sector(2, 1, 0, 0, 1, 1, 0, 0, 1)])

    def test_a_row_of_63_bytes_and_one_of_64(self):
        self.assertEqual(pack([wide_row(62)]), [sector(1, *wide_code(62))])
        self.assertEqual(pack([wide_row(63)]), [[1] + wide_code(63)])
        self.assertIsNone(pack([wide_row(64)]))
        self.assertIsNone(pack([wide_row(65)]))

    def test_one_row_that_fits_nowhere_among_others(self):
        for rows in ([(1,), wide_row(64)], [wide_row(64), (1,)], [(1,), wide_row(64), (2,)]):
            self.assertIsNone(pack(rows))

    def test_a_row_that_just_fits_into_the_current_sector(self):
        self.assertEqual(pack([row_of(30), row_of(33)]), [[2] + code_of(30) + code_of(33)])
        self.assertEqual(pack([row_of(30), row_of(33), ()]), [[2] + code_of(30) + code_of(33), sector(1, 0)])
        self.assertEqual(pack([row_of(30), row_of(32), ()]), [[3] + code_of(30) + code_of(32) + [0]])

    def test_a_row_that_just_does_not_fit_into_the_current_sector(self):
        self.assertEqual(pack([wide_row(60), (1,)]), [sector(1, *wide_code(60)), sector(1, 1, 0, 0, 1)])
        self.assertEqual(pack([row_of(32), row_of(32)]), [sector(1, *code_of(32)), sector(1, *code_of(32))])

    def test_earlier_sectors_are_not_filled_later(self):
        rows = [row_of(30), wide_row(40), (1,), row_of(30)]
        self.assertEqual(pack(rows), [
            sector(1, *code_of(30)), sector(2, *wide_code(40), 1, 0, 0, 1), sector(1, *code_of(30)),
        ])

    def test_many_rows_in_one_sector(self):
        self.assertEqual(pack([()] * 63), [[63] + [0] * 63])
        self.assertEqual(pack([()] * 64), [[63] + [0] * 63, sector(1)])
        self.assertEqual(len(pack([(number,) for number in range(15)])), 1)
        self.assertEqual([used[0] for used in pack([(number,) for number in range(31)])], [15, 15, 1])

    def test_sectors_are_lists_of_their_own(self):
        rows = [row_of(30), row_of(33), (1,)]
        told = pack(rows)
        self.assertEqual({type(part) for part in [told] + told}, {list})
        told[0].clear()
        self.assertEqual([len(used) for used in told], [0, 64])
        self.assertEqual(rows, [row_of(30), row_of(33), (1,)])
        self.assertEqual(len(pack(rows)[0]), 64)


class RelationShapeTest(unittest.TestCase):
    def test_used_sectors_and_then_empty_ones(self):
        self.assertEqual(relation_shape(state_of([]), "r"), [EMPTY] * 3)
        self.assertEqual(relation_shape(state_of([], 1), "r"), [EMPTY])
        self.assertEqual(relation_shape(state_of([(2, 3), (1, "")]), "r"), [
            sector(2, 2, 0, 0, 1, 1, 0, 2, 0, 0, 2, 0, 0, 3), EMPTY, EMPTY,
        ])

    def test_full(self):
        rows = [(number, "x" * 30) for number in range(4)]
        for many in range(5):
            for room in range(1, 6):
                shape = relation_shape(state_of(rows[:many], room), "r")
                with self.subTest(many=many, room=room):
                    if many > room:
                        self.assertIsNone(shape)
                    else:
                        self.assertEqual([part[0] for part in shape], [1] * many + [0] * (room - many))

    def test_a_row_that_fits_nowhere(self):
        self.assertIsNone(relation_shape(state_of([wide_row(64)], 40), "r"))
        self.assertEqual(relation_shape(state_of([wide_row(63)], 2), "r"), [[1] + wide_code(63), EMPTY])

    def test_only_the_rows_of_the_relation(self):
        state = State([
            ("relation", "q", ("a",), 1), ("fact", "q", (5,)), ("relation", "r", ("a",), 2), ("fact", "r", (6,)),
            ("fact", "s", (7,)),
        ])
        self.assertEqual(relation_shape(state, "q"), [sector(1, 1, 0, 0, 5)])
        self.assertEqual(relation_shape(state, "r"), [sector(1, 1, 0, 0, 6), EMPTY])

    def test_how_the_rows_came_there_does_not_matter(self):
        draw = random.Random(5)
        rows = [(number, "x" * draw.randrange(20)) for number in range(20)]
        structures = [("s", "r", ("b",), 3, 8)]
        shapes = []
        for _ in range(5):
            draw.shuffle(rows)
            state = state_of(rows[:5], 40, structures)
            state = state.change([("comes", ("fact", "r", ("odd", number))) for number in range(4)])
            state = state.change([("comes", ("fact", "r", row)) for row in rows])
            state = state.change([("goes", (1, "r", ("odd", number))) for number in range(4)])
            shapes.append((relation_shape(state, "r"), structure_shape(state, "s")))
        for shape in shapes:
            self.assertEqual(shape, shapes[0])

    def test_sectors_are_lists_of_their_own(self):
        state = state_of([(1, 2)], 4, [("s", "r", ("a",), 2, 3)])
        before = parts(state)
        for shape_of, name in ((relation_shape, "r"), (structure_shape, "s")):
            shape = shape_of(state, name)
            self.assertEqual({type(part) for part in [shape] + shape}, {list})
            self.assertEqual(len({id(part) for part in shape}), len(shape))
            shape[-1].append(1)
            shape.pop(0)
            self.assertNotEqual(shape_of(state, name), shape)
        self.assertEqual(parts(state), before)


class BucketTest(unittest.TestCase):
    def test_by_hand(self):
        # (): the byte 0. (0,): 1, 0, 0, 0. ("a",): 1, 1, 1, 97.
        self.assertEqual([bucket_of_values((), many) for many in (1, 2, 3, 16)], [0, 1, 1, 1])
        number = ((2 * 31 + 1) * 31 + 1) * 31 + 1
        self.assertEqual([bucket_of_values((0,), many) for many in range(1, 17)], [
            number % many for many in range(1, 17)
        ])
        number = ((2 * 31 + 2) * 31 + 2) * 31 + 98
        self.assertEqual([bucket_of_values(("a",), many) for many in range(1, 17)], [
            number % many for many in range(1, 17)
        ])
        # (-300, "ab"): 2, 0, 1, 172, 2, 1, 2, 97, 98.
        number = 0
        for byte in (2, 0, 1, 172, 2, 1, 2, 97, 98):
            number = 31 * number + byte + 1
        self.assertEqual([bucket_of_values((-300, "ab"), many) for many in range(1, 17)], [
            number % many for many in range(1, 17)
        ])

    def test_numbers_that_are_known(self):
        self.assertEqual([bucket_of_values((number,), 4) for number in range(8)], [3, 0, 1, 2, 3, 0, 1, 2])
        self.assertEqual(bucket_of_values((0,), 16), 60575 - 3785 * 16)
        self.assertEqual(bucket_of_values(("x" * 30, 10 ** 30 - 1), 1), 0)

    def test_the_columns_in_the_order_of_the_structure(self):
        structures = [
            ("one", "r", ("a",), 16, 1), ("two", "r", ("b",), 16, 1), ("ab", "r", ("a", "b"), 16, 1),
            ("ba", "r", ("b", "a"), 16, 1), ("few", "r", ("b", "a"), 3, 1),
        ]
        state = state_of([], 1, structures)
        different = 0
        for row in [(1, 2), (2, 1), ("x", 7), (0, "y"), (5, 5)]:
            with self.subTest(row=row):
                self.assertEqual(bucket(state, "one", row), bucket_of_values(row[:1], 16))
                self.assertEqual(bucket(state, "two", row), bucket_of_values(row[1:], 16))
                self.assertEqual(bucket(state, "ab", row), bucket_of_values(row, 16))
                self.assertEqual(bucket(state, "ba", row), bucket_of_values(row[::-1], 16))
                self.assertEqual(bucket(state, "few", row), bucket_of_values(row[::-1], 3))
            different += bucket(state, "ab", row) != bucket(state, "ba", row)
        self.assertGreater(different, 2)

    def test_a_row_need_not_be_in_the_relation(self):
        state = state_of([(1, 2)], 1, [("s", "r", ("b",), 4, 1)])
        self.assertEqual(bucket(state, "s", (9, 3)), bucket_of_values((3,), 4))

    def test_buckets_from_none_to_the_last(self):
        for many in range(1, 17):
            found = {bucket_of_values((number,), many) for number in range(100)}
            self.assertEqual(found, set(range(many)))


class StructureShapeTest(unittest.TestCase):
    def test_bytes(self):
        # The buckets of 0 to 5 among four are 3, 0, 1, 2, 3, 0.
        rows = [(number, 9) for number in (0, 1, 3, 4, 5)]
        state = state_of(rows, 3, [("s", "r", ("a",), 4, 2)])
        code = {number: [2, 0, 0, number, 0, 0, 9] for number in range(8)}
        self.assertEqual(structure_shape(state, "s"), [
            sector(2, *code[1], *code[5]), EMPTY, EMPTY, EMPTY, sector(1, *code[3]), EMPTY,
            sector(2, *code[0], *code[4]), EMPTY,
        ])

    def test_without_rows(self):
        for buckets in (1, 3, 16):
            for sectors in (1, 2, 8):
                state = state_of([], 1, [("s", "r", ("a",), buckets, sectors)])
                self.assertEqual(structure_shape(state, "s"), [EMPTY] * (buckets * sectors))

    def test_the_rows_of_a_bucket_are_whole_and_in_their_order(self):
        rows = [(number % 2, -number) for number in range(8)]
        state = state_of(rows, 3, [("s", "r", ("a",), 1, 2)])
        self.assertEqual(structure_shape(state, "s"), pack(sorted(rows, key=row_key)) + [EMPTY])

    def test_full_in_one_bucket(self):
        # Each row has a sector of its own, and two of these share a bucket if both are even or both odd.
        rows = [(number + 1, "x" * 30) for number in range(6)]
        self.assertEqual([bucket_of_values((number + 1,), 2) for number in range(6)], [0, 1, 0, 1, 0, 1])
        for some, sectors, told in [
            ([0, 2, 4], 3, [1, 1, 1, 0, 0, 0]), ([0, 2, 4], 2, None), ([1, 3, 5], 3, [0, 0, 0, 1, 1, 1]),
            ([1, 3, 5], 2, None), ([0, 1], 1, [1, 1]), ([0, 2], 1, None), ([1, 3], 1, None),
            ([0, 1, 2, 3, 4], 2, None), ([0, 1, 2, 3, 4], 3, [1, 1, 1, 1, 1, 0]),
            ([0, 1, 2, 3], 2, [1, 1, 1, 1]),
        ]:
            state = state_of([rows[number] for number in some], 40, [("s", "r", ("a",), 2, sectors)])
            shape = structure_shape(state, "s")
            with self.subTest(some=some, sectors=sectors):
                self.assertEqual(shape if shape is None else [part[0] for part in shape], told)

    def test_a_row_that_fits_nowhere(self):
        self.assertIsNone(structure_shape(state_of([wide_row(64)], 40, [("s", "r", ("a",), 16, 8)]), "s"))
        state = state_of([wide_row(63)], 40, [("s", "r", ("a",), 1, 2)])
        self.assertEqual(structure_shape(state, "s"), [[1] + wide_code(63), EMPTY])

    def test_a_structure_may_have_what_is_too_much_for_its_relation(self):
        rows = [(number, "x" * 30) for number in range(2)]
        state = state_of(rows, 1, [("s", "r", ("a",), 2, 1)])
        self.assertIsNone(relation_shape(state, "r"))
        self.assertEqual([part[0] for part in structure_shape(state, "s")], [1, 1])

    def test_rows_of_its_own_relation_alone(self):
        state = State([
            ("relation", "q", ("a",), 1), ("fact", "q", (5,)), ("relation", "r", ("b",), 1), ("fact", "r", (6,)),
            ("structure", "s", "q", ("a",), 1, 1), ("structure", "t", "r", ("b",), 1, 2),
        ])
        self.assertEqual(structure_shape(state, "s"), [sector(1, 1, 0, 0, 5)])
        self.assertEqual(structure_shape(state, "t"), [sector(1, 1, 0, 0, 6), EMPTY])

    def test_by_the_words_of_point_17(self):
        draw = random.Random(11)
        for _ in range(60):
            rows = [(draw.randrange(50), "v" * draw.randrange(12)) for _ in range(draw.randrange(40))]
            columns = draw.choice([("a",), ("b",), ("a", "b"), ("b", "a")])
            buckets, sectors = draw.randrange(1, 17), draw.randrange(1, 9)
            state = state_of(rows, 40, [("s", "r", columns, buckets, sectors)])
            wanted = []
            for number in range(buckets):
                kept = [row for row in state.facts["r"] if bucket(state, "s", row) == number]
                used = pack(kept)
                wanted.append(None if len(used) > sectors else used + [EMPTY] * (sectors - len(used)))
            told = None if None in wanted else [part for parts_of in wanted for part in parts_of]
            self.assertEqual(structure_shape(state, "s"), told)


class PlacesTest(unittest.TestCase):
    def test_an_empty_state(self):
        self.assertEqual(places(State()), {})
        self.assertEqual(room_needed(State()), 0)

    def test_relations_by_name_and_then_structures_by_name(self):
        state = State([
            ("relation", "rb", ("a",), 7), ("relation", "ra", ("a",), 2), ("relation", "z", ("a",), 1),
            ("structure", "b", "z", ("a",), 3, 4), ("structure", "a", "rb", ("a",), 16, 8),
            ("structure", "ra", "ra", ("a",), 1, 1), ("layout", "l", ("a",)), ("fact", "z", (1,)),
        ])
        self.assertEqual(places(state), {
            ("relation", "ra"): 0, ("relation", "rb"): 2, ("relation", "z"): 9,
            ("structure", "a"): 10, ("structure", "b"): 138, ("structure", "ra"): 150,
        })
        self.assertEqual(room_needed(state), 151)

    def test_rows_and_layouts_do_not_matter(self):
        bare = state_of([], 5, [("s", "r", ("a",), 2, 3)])
        other = state_of([(number, "x" * 30) for number in range(9)], 5, [("s", "r", ("a",), 2, 3)])
        other = other.change([("comes", ("layout", "l", ("s",)))])
        for state in (bare, other):
            self.assertEqual(places(state), {("relation", "r"): 0, ("structure", "s"): 5})
            self.assertEqual(room_needed(state), 11)

    def test_facts_of_no_relation_have_no_place(self):
        state = State([("fact", "a", (1,)), ("relation", "r", ("a",), 5)])
        self.assertEqual(places(state), {("relation", "r"): 0})
        self.assertEqual(room_needed(state), 5)

    def test_places_are_new_and_nothing_is_modified(self):
        state = state_of([(1, 2)], 2, [("s", "r", ("a",), 2, 3)])
        before = parts(state)
        places(state).clear()
        room_needed(state)
        bucket(state, "s", (1, 2))
        self.assertEqual(parts(state), before)
        self.assertEqual(len(places(state)), 2)


if __name__ == "__main__":
    unittest.main()
