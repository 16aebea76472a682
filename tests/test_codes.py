"""Tests of the written forms (point 15, and 3 for them)."""

import copy
import itertools
import random
import unittest

from turnshelves.codes import (
    Reader, write_change, write_changes, write_image, write_integer, write_item, write_number, write_row,
    write_string, write_value,
)
from turnshelves.errors import DamagedData, ShelfError
from turnshelves.states import State

MOST = 10 ** 30 - 1
CHARACTERS = "".join(chr(code) for code in range(32, 127) if code != 37)

# 60 bytes of a number hold 420 bits.
MOST_READ = 2 ** 420 - 1

NUMBERS = [
    (0, [0]), (1, [1]), (2, [2]), (10, [10]), (126, [126]), (127, [127]), (128, [128, 1]), (129, [129, 1]),
    (200, [200, 1]), (255, [255, 1]), (256, [128, 2]), (300, [172, 2]), (16383, [255, 127]),
    (16384, [128, 128, 1]), (2 ** 21 - 1, [255, 255, 127]), (2 ** 21, [128, 128, 128, 1]),
    (2 ** 63, [128] * 9 + [1]), (2 ** 64 - 1, [255] * 9 + [1]),
    (MOST, [255, 255, 255, 255, 163, 189, 187, 186, 198, 160, 243, 228, 242, 147, 3]),
]
INTEGERS = [
    (0, [0, 0]), (1, [0, 1]), (-1, [1, 1]), (127, [0, 127]), (-127, [1, 127]), (128, [0, 128, 1]),
    (-128, [1, 128, 1]), (300, [0, 172, 2]), (-300, [1, 172, 2]),
]
STRINGS = [
    ("", [0]), ("a", [1, 97]), (" ", [1, 32]), ("~", [1, 126]), ("$&", [2, 36, 38]), ("ab c", [4, 97, 98, 32, 99]),
    ("\"'\\`", [4, 34, 39, 92, 96]), ("z" * 30, [30] + [122] * 30), ("r_1", [3, 114, 95, 49]),
    ("k" * 128, [128, 1] + [107] * 128),
]
VALUES = [
    (0, [0, 0, 0]), (1, [0, 0, 1]), (-1, [0, 1, 1]), (-300, [0, 1, 172, 2]), ("", [1, 0]), ("1", [1, 1, 49]),
    ("ab", [1, 2, 97, 98]),
]
ROWS = [
    ((), [0]), ((5,), [1, 0, 0, 5]), (("",), [1, 1, 0]), ((-2, "ab"), [2, 0, 1, 2, 1, 2, 97, 98]),
    (("ab", -2), [2, 1, 2, 97, 98, 0, 1, 2]), ((0, 0, 0), [3, 0, 0, 0, 0, 0, 0, 0, 0, 0]),
    (("",) * 200, [200, 1] + [1, 0] * 200),
]
ITEMS = [
    (("relation", "r", ("a", "b1"), 40), [0, 1, 114, 2, 1, 97, 2, 98, 49, 40]),
    (("relation", "rs", ("a",), 300), [0, 2, 114, 115, 1, 1, 97, 172, 2]),
    (("relation", "r", (), 0), [0, 1, 114, 0, 0]),
    (("fact", "r", (7, "x")), [1, 1, 114, 2, 0, 0, 7, 1, 1, 120]),
    (("fact", "r", ()), [1, 1, 114, 0]),
    (("structure", "s", "r", ("b", "a"), 16, 8), [2, 1, 115, 1, 114, 2, 1, 98, 1, 97, 16, 8]),
    (("structure", "s", "rr", (), 128, 0), [2, 1, 115, 2, 114, 114, 0, 128, 1, 0]),
    (("layout", "l", ("s", "tt")), [3, 1, 108, 2, 1, 115, 2, 116, 116]),
    (("layout", "l", ()), [3, 1, 108, 0]),
]
CHANGES = [(("comes", item), [0] + data) for item, data in ITEMS] + [
    (("goes", (0, "r", ())), [1, 0, 1, 114, 0]),
    (("goes", (1, "r", (7, "x"))), [1, 1, 1, 114, 2, 0, 0, 7, 1, 1, 120]),
    (("goes", (2, "st", ())), [1, 2, 2, 115, 116, 0]),
    (("goes", (3, "l", ())), [1, 3, 1, 108, 0]),
    (("goes", (3, "l", (0,))), [1, 3, 1, 108, 1, 0, 0, 0]),
]
CHANGE_LISTS = [
    ([], [0]),
    ([("goes", (3, "l", ())), ("comes", ("fact", "r", ()))], [2, 1, 3, 1, 108, 0, 0, 1, 1, 114, 0]),
    ([("comes", ("fact", "r", (5,)))] * 130, [130, 1] + [0, 1, 1, 114, 1, 0, 0, 5] * 130),
]

FORMS = [
    (write_number, "read_number", NUMBERS),
    (write_integer, "read_integer", INTEGERS),
    (write_string, "read_string", STRINGS),
    (write_value, "read_value", VALUES),
    (write_row, "read_row", ROWS),
    (write_item, "read_item", ITEMS),
    (write_change, "read_change", CHANGES),
    (write_changes, "read_changes", CHANGE_LISTS),
]

STATE_ITEMS = [
    ("relation", "r", ("a", "b"), 2),
    ("fact", "r", (-1, "")),
    ("fact", "r", (3, "x")),
    ("structure", "s", "r", ("b",), 4, 1),
    ("layout", "l", ("s",)),
]
IMAGE = (
    [5]
    + [0, 1, 114, 2, 1, 97, 1, 98, 2]
    + [1, 1, 114, 2, 0, 1, 1, 1, 0]
    + [1, 1, 114, 2, 0, 0, 3, 1, 1, 120]
    + [2, 1, 115, 1, 114, 1, 1, 98, 4, 1]
    + [3, 1, 108, 1, 1, 115]
)


def read(method, data):
    """What a new Reader reads first, and where it stands then."""
    reader = Reader(data)
    told = getattr(reader, method)()
    return told, reader.at


def parts(state):
    return copy.deepcopy((state.relations, state.facts, state.structures, state.layouts))


class WriteTest(unittest.TestCase):
    def test_bytes(self):
        for write, _, cases in FORMS:
            for thing, data in cases:
                with self.subTest(write=write.__name__, thing=thing):
                    told = write(thing)
                    self.assertEqual(told, data)
                    self.assertIs(type(told), list)
                    self.assertEqual({type(byte) for byte in told}, {int})

    def test_every_character_is_written_as_its_code(self):
        for char in CHARACTERS:
            self.assertEqual(write_string(char), [1, ord(char)])

    def test_numbers_by_their_words(self):
        for number in [*range(600), *(2 ** bits + more for bits in range(9, 430) for more in (-1, 0, 1))]:
            data = write_number(number)
            self.assertEqual(sum((byte & 127) << 7 * at for at, byte in enumerate(data)), number)
            self.assertTrue(all(byte >= 128 for byte in data[:-1]))
            self.assertLess(data[-1], 128)
            self.assertTrue(data[-1] > 0 or data == [0])

    def test_image(self):
        self.assertEqual(write_image(0, State()), [0, 0])
        self.assertEqual(write_image(300, State()), [172, 2, 0])
        for items in (STATE_ITEMS, STATE_ITEMS[::-1]):
            self.assertEqual(write_image(9, State(items)), [9] + IMAGE)
        facts = [("fact", "r", (number,)) for number in range(130)]
        self.assertEqual(write_image(1, State(facts))[:3], [1, 130, 1])

    def test_what_is_returned_is_new(self):
        for write, _, cases in FORMS:
            for thing, data in cases:
                write(thing).append(0)
                self.assertEqual(write(thing), data)

    def test_nothing_is_modified(self):
        state = State(STATE_ITEMS)
        before = parts(state)
        write_image(1, state).clear()
        self.assertEqual(parts(state), before)
        changes = [("comes", STATE_ITEMS[0])]
        write_changes(changes).clear()
        self.assertEqual(changes, [("comes", STATE_ITEMS[0])])


class ReadTest(unittest.TestCase):
    def test_all_that_is_written_is_read_from_the_front(self):
        for _, method, cases in FORMS:
            for thing, data in cases:
                for behind in ([], [0], [1, 2, 3], [255] * 70):
                    with self.subTest(method=method, thing=thing, behind=behind):
                        told, at = read(method, data + behind)
                        self.assertEqual(told, thing)
                        self.assertIs(type(told), type(thing))
                        self.assertEqual(at, len(data))

    def test_rows_and_names_are_tuples(self):
        item = read("read_item", ITEMS[0][1])[0]
        self.assertEqual([type(part) for part in item], [str, str, tuple, int])
        item = read("read_item", ITEMS[5][1])[0]
        self.assertEqual([type(part) for part in item], [str, str, str, tuple, int, int])
        item = read("read_item", ITEMS[7][1])[0]
        self.assertEqual([type(part) for part in item], [str, str, tuple])
        word, key = read("read_change", CHANGES[-1][1])[0]
        self.assertEqual([type(part) for part in key], [int, str, tuple])
        self.assertIs(type(read("read_row", [0])[0]), tuple)

    def test_a_new_reader_stands_at_the_front(self):
        self.assertEqual(Reader([]).at, 0)
        self.assertEqual(Reader([1, 2]).at, 0)

    def test_one_thing_after_another(self):
        data = [value for _, _, cases in FORMS for _, code in cases for value in code]
        reader = Reader(data)
        place = 0
        for _, method, cases in FORMS:
            for thing, code in cases:
                self.assertEqual(getattr(reader, method)(), thing)
                place += len(code)
                self.assertEqual(reader.at, place)
        reader.end()

    def test_all_prefixes_are_damaged(self):
        for _, method, cases in FORMS:
            for thing, data in cases:
                for many in range(len(data) if len(data) < 100 else 12):
                    with self.subTest(method=method, thing=thing, many=many):
                        with self.assertRaises(DamagedData):
                            read(method, data[:many])

    def test_every_character_is_read(self):
        data = [len(CHARACTERS)] + [ord(char) for char in CHARACTERS]
        self.assertEqual(read("read_string", data), (CHARACTERS, 95))

    def test_image(self):
        for data, commits, items in [([0, 0], 0, []), ([172, 2] + IMAGE, 300, STATE_ITEMS)]:
            told, at = read("read_image", data + [7, 7])
            self.assertIs(type(told), tuple)
            self.assertEqual(told[0], commits)
            self.assertIs(type(told[1]), State)
            self.assertEqual(parts(told[1]), parts(State(items)))
            self.assertEqual(at, len(data))

    def test_the_items_of_an_image_in_any_order(self):
        for order in itertools.permutations(STATE_ITEMS):
            data = [3, 5] + [byte for item in order for byte in write_item(item)]
            self.assertEqual(parts(read("read_image", data)[0][1]), parts(State(STATE_ITEMS)))

    def test_of_several_items_with_one_key_the_last_one_counts(self):
        first, last = ("relation", "r", ("a", "b"), 1), ("relation", "r", ("c",), 2)
        fact = ("fact", "r", (1,))
        data = [0, 4] + [byte for item in (first, fact, last, fact) for byte in write_item(item)]
        self.assertEqual(read("read_image", data)[0][1].all_items(), [last, fact])

    def test_the_bounds_of_items_are_not_checked(self):
        for item in [
            ("relation", "", (), 0), ("relation", "No Name!", ("a", "a"), 10 ** 40), ("fact", "", (10 ** 40,)),
            ("fact", "r", ("x" * 100, -10 ** 40)), ("structure", "1", "", (), 0, 0), ("layout", "~", ("a", "a")),
        ]:
            data = write_item(item)
            self.assertEqual(read("read_item", data), (item, len(data)))
            self.assertEqual(read("read_change", [0] + data), (("comes", item), len(data) + 1))

    def test_the_row_of_a_key_may_be_any_row(self):
        for sort in range(4):
            key = (sort, "Any thing", (1, "x"))
            self.assertEqual(read("read_change", write_change(("goes", key)))[0], ("goes", key))

    def test_the_reader_has_its_own_bytes(self):
        data = [2, 97, 98]
        reader = Reader(data)
        data.clear()
        self.assertEqual(reader.read_string(), "ab")
        reader.end()
        data = [1, 97]
        Reader(data).read_string()
        self.assertEqual(data, [1, 97])

    def test_what_is_read_is_new(self):
        reader = Reader([0, 0])
        reader.read_changes().append("spoilt")
        self.assertEqual(reader.read_changes(), [])

    def test_end(self):
        Reader([]).end()
        reader = Reader([5, 6])
        for _ in range(2):
            with self.assertRaises(DamagedData):
                reader.end()
            reader.read_number()
        reader.end()
        self.assertEqual(reader.at, 2)


class DamagedTest(unittest.TestCase):
    def check_damaged(self, method, *forms):
        for data in forms:
            for behind in ([], [0] * 80, [97] * 80):
                with self.subTest(method=method, data=data, behind=behind):
                    with self.assertRaises(DamagedData) as caught:
                        read(method, data + behind)
                    self.assertIsInstance(caught.exception, ShelfError)

    def test_numbers(self):
        self.check_damaged("read_number", [128, 0], [129, 0], [255, 128, 0], [128, 128, 128, 0])
        self.assertEqual(read("read_number", [0, 0]), (0, 1))
        self.assertEqual(read("read_number", [128, 1, 0]), (128, 2))

    def test_numbers_of_sixty_bytes(self):
        for data, number in [
            ([128] * 58 + [1], 128 ** 58), ([128] * 59 + [1], 128 ** 59), ([255] * 59 + [127], MOST_READ),
            ([129] + [128] * 58 + [1], 128 ** 59 + 1),
        ]:
            self.assertEqual(read("read_number", data + [9]), (number, len(data)))
            self.assertEqual(read("read_integer", [1] + data), (-number, len(data) + 1))
        self.assertEqual(read("read_number", write_number(MOST_READ)), (MOST_READ, 60))
        self.check_damaged("read_number", [128] * 60 + [1], [255] * 60 + [127], [128] * 60, [128] * 59 + [0])
        self.check_damaged("read_number", write_number(MOST_READ + 1))
        self.assertEqual(len(write_number(MOST_READ + 1)), 61)

    def test_integers(self):
        self.check_damaged("read_integer", [1, 0], [2, 1], [3, 0], [128, 1], [255, 255], [0, 128, 0], [1, 128, 0])
        self.check_damaged("read_integer", [1] + [128] * 60 + [1])

    def test_strings(self):
        self.check_damaged("read_string", [1, 31], [1, 127], [1, 37], [1, 0], [1, 128], [1, 255], [1, 10])
        self.check_damaged("read_string", [3, 97, 37, 97], [3, 97, 97, 31], [128, 0])
        for code in range(256):
            if 32 <= code <= 126 and code != 37:
                self.assertEqual(read("read_string", [1, code])[0], chr(code))
            else:
                self.check_damaged("read_string", [1, code])

    def test_a_list_has_at_most_as_many_items_as_bytes_are_left(self):
        self.assertEqual(read("read_string", [3, 97, 97, 97]), ("aaa", 4))
        for method in ("read_string", "read_row", "read_changes"):
            for data in ([1], [2, 0], [3, 97, 97], [128, 1] + [97] * 127, write_number(MOST_READ) + [97] * 50):
                with self.subTest(method=method, data=data):
                    with self.assertRaises(DamagedData):
                        read(method, data)
        for head in ([0, 1, 114], [2, 1, 115, 1, 114], [3, 1, 108]):
            with self.assertRaises(DamagedData):
                read("read_item", head + [9, 0, 0, 0, 0, 0, 0, 0])
        with self.assertRaises(DamagedData):
            read("read_image", [0] + write_number(MOST_READ))

    def test_values(self):
        self.check_damaged("read_value", [2, 0, 0], [3, 1, 97], [255], [128, 0], [0, 2, 1], [0, 1, 0], [1, 1, 37])

    def test_rows(self):
        self.check_damaged("read_row", [1, 2, 0, 0], [2, 0, 0, 1, 2, 0], [1, 0, 1, 0], [1, 1, 1, 127])

    def test_items(self):
        self.check_damaged("read_item", [4, 1, 114, 0, 0], [5, 1, 114], [128, 0], [255, 1, 114, 0, 0])
        self.check_damaged("read_item", [0, 1, 37, 0, 0], [0, 1, 114, 1, 1, 200, 1], [0, 1, 114, 0, 128, 0])
        self.check_damaged("read_item", [1, 1, 114, 1, 7], [1, 1, 10, 0])
        self.check_damaged("read_item", [2, 1, 115, 1, 37, 0, 1, 1], [2, 1, 115, 1, 114, 0, 128, 0, 1])
        self.check_damaged("read_item", [2, 1, 115, 1, 114, 0, 1, 128, 0], [3, 1, 108, 1, 1, 127])

    def test_changes(self):
        self.check_damaged("read_change", [2, 0, 1, 114, 0], [255, 0], [128, 0])
        self.check_damaged("read_change", [1, 4, 1, 114, 0], [1, 128, 0, 1, 114, 0], [1, 255, 1, 114, 0])
        self.check_damaged("read_change", [1, 0, 1, 37, 0], [1, 1, 1, 114, 1, 9], [0, 4, 1, 114, 0])
        self.check_damaged("read_changes", [1, 2], [2, 1, 3, 1, 108, 0, 7])

    def test_images(self):
        self.check_damaged("read_image", [128, 0, 0], [0, 1, 4], [0, 2] + write_item(STATE_ITEMS[0]) + [9])
        for many in range(len(IMAGE)):
            with self.assertRaises(DamagedData):
                read("read_image", ([1] + IMAGE)[:many])

    def test_nothing_but_damage_is_told_of_bytes_as_they_come(self):
        draw = random.Random(3)
        good = 0
        for write, method, cases in FORMS:
            for _ in range(400):
                data = list(draw.choice(cases)[1][:60])
                data[draw.randrange(len(data))] = draw.choice([0, 1, 2, 3, 37, 97, 127, 128, 255])
                try:
                    told, at = read(method, data)
                except DamagedData:
                    continue
                good += 1
                with self.subTest(method=method, data=data):
                    self.assertEqual(write(told), data[:at])
        self.assertGreater(good, 100)


if __name__ == "__main__":
    unittest.main()
