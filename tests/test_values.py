"""Tests of the orders of values, rows and keys (points 4 and 6)."""

import unittest

from turnshelves.values import key_of, key_order, row_key, value_key

MOST = 10 ** 30 - 1

# Every value that a string may have as a character, in their order.
CHARACTERS = [chr(code) for code in range(32, 127) if chr(code) != "%"]

VALUES = [
    -MOST, -MOST + 1, -10 ** 29, -2 ** 64, -2 ** 63, -256, -10, -9, -2, -1,
    0, 1, 2, 9, 10, 255, 256, 2 ** 63, 2 ** 64, 10 ** 29, MOST - 1, MOST,
    "", " ", "  ", " a", "!", "-1", "0", "00", "1", "10", "2", "A", "AB", "Z",
    "_", "a", "a ", "a0", "aA", "aa", "aaa", "ab", "b", "z" * 29, "z" * 30, "~", "~~",
]

ROWS = [
    (),
    (-MOST,), (-MOST, -MOST), (-1,), (-1, "~"), (0,), (0, 0), (0, 0, 0), (0, 1), (0, ""),
    (1,), (1, -1), (1, 2), (1, 2, 3), (1, 10), (1, "a"), (1, "a", 0), (1, "b"),
    (2,), (10,), (MOST,),
    ("",), ("", 0), ("", ""), ("", "", ""), ("", "a"),
    ("1",), ("a",), ("a", 1), ("a", 1, 1), ("a", "a"), ("aa",), ("b",), ("b", 0),
]

KEYS = [
    (0, "a", ()), (0, "aa", ()), (0, "b", ()), (0, "r", ()),
    (1, "a", ()), (1, "a", (-1,)), (1, "a", (2,)), (1, "a", (2, 0)), (1, "a", (10,)),
    (1, "a", ("",)), (1, "a", ("1",)), (1, "a_", (0,)), (1, "aa", (0,)), (1, "b", (-5,)), (1, "b", ("x",)),
    (2, "a", ()), (2, "a0", ()), (2, "b", ()),
    (3, "a", ()), (3, "ab", ()), (3, "b", ()),
]


class OrderTest(unittest.TestCase):
    def check_order(self, things, key):
        """The things stand in their order, each once."""
        keys = [key(thing) for thing in things]
        for at, low in enumerate(keys):
            self.assertIs(type(low), tuple)
            for place, high in enumerate(keys):
                with self.subTest(first=things[at], second=things[place]):
                    self.assertEqual(low < high, at < place)
                    self.assertEqual(low == high, at == place)

    def test_values(self):
        self.check_order(VALUES, value_key)

    def test_strings_by_their_characters(self):
        self.check_order(CHARACTERS, value_key)

    def test_a_number_and_its_digits_are_two_values(self):
        for number in (-7, 0, 7):
            self.assertNotEqual(value_key(number), value_key(str(number)))
            self.assertNotEqual(row_key((number,)), row_key((str(number),)))

    def test_integers_before_strings(self):
        for number in (-MOST, 0, MOST):
            for text in ("", " ", "0", "~"):
                self.assertLess(value_key(number), value_key(text))

    def test_rows(self):
        self.check_order(ROWS, row_key)

    def test_rows_of_all_pairs_of_values(self):
        values = [-MOST, -1, 0, 2, 10, "", "1", "a", "ab"]
        rows = [()]
        for first in values:
            rows.append((first,))
            rows.extend((first, second) for second in values)
        self.check_order(rows, row_key)

    def test_the_row_without_values_stands_before_all_others(self):
        for row in ROWS[1:]:
            self.assertLess(row_key(()), row_key(row))

    def test_keys(self):
        self.check_order(KEYS, key_order)

    def test_keys_by_sort_then_name_then_row(self):
        self.assertLess(key_order((0, "z", ())), key_order((1, "a", (1,))))
        self.assertLess(key_order((1, "a", ("z",))), key_order((1, "b", (0,))))
        self.assertLess(key_order((1, "a", (9,))), key_order((1, "a", (10,))))
        self.assertLess(key_order((1, "z", (9,))), key_order((2, "a", ())))
        self.assertLess(key_order((2, "z", ())), key_order((3, "a", ())))

    def test_keys_with_rows_that_are_not_those_of_facts(self):
        self.check_order([(0, "a", ()), (0, "a", (1,)), (0, "a", ("1",)), (0, "b", ())], key_order)

    def test_equal_if_made_anew(self):
        self.assertEqual(value_key(10 ** 29 + 1), value_key(int("1" + "0" * 28 + "1")))
        self.assertEqual(value_key("ab"), value_key("".join(["a", "b"])))
        self.assertEqual(row_key((1, "ab")), row_key(tuple([1, "".join(["a", "b"])])))
        self.assertEqual(key_order((1, "r", (1,))), key_order((1, "r", tuple([1]))))


class KeyOfTest(unittest.TestCase):
    def check_key(self, item, key):
        told = key_of(item)
        self.assertEqual(told, key)
        self.assertIs(type(told), tuple)
        self.assertIs(type(told[0]), int)

    def test_relation(self):
        self.check_key(("relation", "r", ("a", "b"), 40), (0, "r", ()))

    def test_fact(self):
        self.check_key(("fact", "r", (1, "x")), (1, "r", (1, "x")))
        self.check_key(("fact", "r", ()), (1, "r", ()))

    def test_structure(self):
        self.check_key(("structure", "s", "r", ("a",), 16, 8), (2, "s", ()))

    def test_layout(self):
        self.check_key(("layout", "l", ("s", "t")), (3, "l", ()))
        self.check_key(("layout", "l", ()), (3, "l", ()))

    def test_other_contents_have_the_same_key(self):
        self.assertEqual(key_of(("relation", "r", ("a",), 1)), key_of(("relation", "r", ("b",), 2)))
        self.assertEqual(
            key_of(("structure", "s", "r", ("a",), 1, 1)), key_of(("structure", "s", "q", ("b",), 2, 2)))
        self.assertEqual(key_of(("layout", "l", ())), key_of(("layout", "l", ("s",))))

    def test_items_of_one_name_have_different_keys(self):
        items = [
            ("relation", "r", ("a",), 1), ("fact", "r", (1,)), ("fact", "r", ("1",)),
            ("structure", "r", "r", ("a",), 1, 1), ("layout", "r", ("r",)),
        ]
        self.assertEqual(len({key_of(item) for item in items}), len(items))


if __name__ == "__main__":
    unittest.main()
