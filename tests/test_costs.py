"""Tests of costs (points 21 to 24, with 3, 16 to 19 and 22 where they lean on them)."""

import unittest

import helper
from helper import big, parts
from turnshelves.costs import (
    all_read, cost, excesses, going, laying, offered, read_sectors, stands, way, written,
)
from turnshelves.shapes import bucket_of_values
from turnshelves.states import State

R = ("relation", "r")
Q = ("relation", "q")


def of(name, *numbers):
    """Some sectors of a relation or structure."""
    return [(name, number) for number in numbers]


def state_of(rows, *items):
    """A state with a relation "r" of big rows, an empty relation "q", and more items."""
    told = [("relation", "r", ("a", "b", "c"), 8), ("relation", "q", ("d",), 2)]
    told += [("fact", "r", row) for row in rows]
    return State(told + list(items))


# The buckets of 0 to 7 among four are 3, 0, 1, 2, 3, 0, 1, 2: each row of ROWS
# has a sector of its own, "s" has 1, 1, 1 and 2 of them in its buckets, and "t"
# has all five in the bucket of 0.
ROWS = [big(0), big(1), big(2), big(3), big(4)]
S = ("structure", "s", "r", ("a",), 4, 3)
T = ("structure", "t", "r", ("b",), 4, 6)
U = ("structure", "u", "r", ("b", "a"), 1, 8)
Z = ("structure", "z", "q", ("d",), 2, 2)
STATE = state_of(ROWS, S, T, U, Z, ("fact", "q", (5,)))


class OfferedTest(unittest.TestCase):
    def test_no_layout(self):
        self.assertEqual(offered(State()), [()])
        self.assertEqual(offered(STATE), [()])

    def test_in_the_order_of_their_names(self):
        state = STATE.change([
            ("comes", ("layout", "b", ("t", "s"))), ("comes", ("layout", "c", ())), ("comes", ("layout", "a", ("z",))),
        ])
        self.assertEqual(offered(state), [("z",), ("t", "s"), ()])

    def test_the_empty_layout_only_if_it_is_offered_or_none_is(self):
        state = STATE.change([("comes", ("layout", "a", ("z",)))])
        self.assertEqual(offered(state), [("z",)])
        self.assertEqual(offered(state.change([("comes", ("layout", "b", ()))])), [("z",), ()])
        self.assertEqual(offered(state.change([("goes", (3, "a", ()))])), [()])

    def test_the_same_layout_twice(self):
        state = State([("layout", "b", ("s", "t")), ("layout", "a", ("s", "t")), ("layout", "c", ("t", "s"))])
        self.assertEqual(offered(state), [("s", "t"), ("s", "t"), ("t", "s")])

    def test_the_list_is_new(self):
        state = STATE.change([("comes", ("layout", "a", ("z",)))])
        told = offered(state)
        self.assertIs(type(told), list)
        told.append(("s",))
        self.assertEqual(offered(state), [("z",)])
        offered(State()).clear()
        self.assertEqual(offered(State()), [()])


class ReadSectorsTest(unittest.TestCase):
    def check(self, layout, call, wanted, state=STATE):
        before = parts(state)
        with self.subTest(layout=layout, call=call):
            told = read_sectors(state, layout, call)
            self.assertEqual(told, wanted)
            self.assertIs(type(told), list)
            self.assertEqual(told, helper.slow_read(state, layout, call))
            told.append(("spoilt", 0))
            self.assertEqual(read_sectors(state, layout, call), wanted)
        self.assertEqual(parts(state), before)

    def test_the_buckets_are_as_told(self):
        self.assertEqual([bucket_of_values((number,), 4) for number in range(5)], [3, 0, 1, 2, 3])

    def test_in_the_relation(self):
        everything = of(R, 0, 1, 2, 3, 4)
        for pattern in [(None, None, None), (1, None, None), big(1), (7, 7, 7)]:
            self.check((), ("r", pattern), everything)
        for pattern in [(None, None, None), (None, 0, None), (None, None, "v" * 30), (None, 0, "")]:
            self.check(("s",), ("r", pattern), everything)

    def test_in_a_bucket(self):
        for value, wanted in [(0, (9, 10)), (1, (0,)), (2, (3,)), (3, (6,)), (4, (9, 10)), (5, (0,)), (8, (9, 10))]:
            for pattern in [(value, None, None), (value, 0, None), (value, None, ""), big(value, 9)]:
                self.check(("s",), ("r", pattern), of(("structure", "s"), *wanted))

    def test_a_value_is_not_read_as_another_one_of_its_bucket(self):
        # The bucket of a string is that of its written form.
        at = bucket_of_values(("x",), 4)
        wanted = {0: (0,), 1: (3,), 2: (6,), 3: (9, 10)}[at]
        self.check(("s",), ("r", ("x", None, None)), of(("structure", "s"), *wanted))

    def test_an_empty_bucket(self):
        for value in (1, 2, 3):
            self.check(("t",), ("r", (None, value, None)), [])
            self.check(("s", "t"), ("r", (value, value, None)), [])

    def test_as_many_in_the_relation(self):
        # All rows are in one bucket of "t", and in the only one of "u".
        everything = of(R, 0, 1, 2, 3, 4)
        self.check(("t",), ("r", (None, 0, None)), everything)
        self.check(("t", "u"), ("r", (7, 0, None)), everything)
        self.check(("u",), ("r", (1, 0, None)), everything)
        self.check(("t",), ("r", (None, 0, None)), of(R, 0), state_of([big(1)], T))
        self.check(("t",), ("r", (None, 1, None)), [], state_of([big(1)], T))

    def test_all_columns_of_a_structure_need_values(self):
        rows = [big(number % 2, number // 2) for number in range(6)]
        both = ("structure", "p", "r", ("b", "a"), 16, 2)
        state = state_of(rows, both)
        for row in rows:
            wanted = helper.used(state, ("structure", "p"), bucket_of_values((row[1], row[0]), 16), 2)
            self.assertIn(len(wanted), (1, 2))
            self.check(("p",), ("r", row), wanted, state)
            self.check(("p",), ("r", row[:2] + (None,)), wanted, state)
            self.check(("p",), ("r", (row[0], None, row[2])), of(R, *range(6)), state)
            self.check(("p",), ("r", (None,) + row[1:]), of(R, *range(6)), state)

    def test_the_first_of_several_structures_by_name(self):
        rows = [big(1), big(2)]
        told = [("structure", name, "r", ("a",), 4, 1) for name in ("kb", "ka", "kc")]
        state = state_of(rows, *told)
        for layout in [("ka", "kb", "kc"), ("kc", "kb", "ka"), ("kb", "ka"), ("ka",)]:
            self.check(layout, ("r", (1, None, None)), of(("structure", "ka"), 0), state)
        self.check(("kc", "kb"), ("r", (1, None, None)), of(("structure", "kb"), 0), state)

    def test_the_fewest_of_several_structures(self):
        rows = [big(1), big(5), big(9), big(2)]
        few = ("structure", "m", "r", ("a",), 4, 4)
        many = ("structure", "n", "r", ("a",), 16, 1)
        state = state_of(rows, few, many)
        self.assertEqual(len({bucket_of_values((row[0],), 16) for row in rows}), 4)
        for layout in [("m", "n"), ("n", "m")]:
            at = bucket_of_values((1,), 16)
            self.check(layout, ("r", (1, None, None)), of(("structure", "n"), at), state)
            self.check(layout, ("r", (2, None, None)), of(("structure", "m"), 4), state)
        self.check(("m",), ("r", (1, None, None)), of(("structure", "m"), 0, 1, 2), state)

    def test_structures_of_other_relations_and_not_of_the_layout(self):
        everything = of(R, 0, 1, 2, 3, 4)
        self.check((), ("r", (1, None, None)), everything)
        self.check(("z",), ("r", (1, 0, "")), everything)
        self.check(("z", "u", "t"), ("r", (1, None, None)), everything)
        self.check(("s", "t", "u"), ("q", (5,)), of(Q, 0))
        # The columns of "z" have the name of one of "r" here.
        state = State([
            ("relation", "q", ("a",), 2), ("relation", "r", ("a",), 2), ("fact", "q", (1,)), ("fact", "r", (1,)),
            ("structure", "z", "q", ("a",), 2, 2),
        ])
        self.check(("z",), ("r", (2,)), of(R, 0), state)
        self.check(("z",), ("q", (2,)), [], state)

    def test_empty_relations(self):
        for layout in [(), ("s",), ("s", "t", "u", "z")]:
            self.check(layout, ("r", (1, None, None)), [], state_of([], S, T, U, Z))
            self.check(layout, ("q", (None,)), [], state_of([], S, T, U, Z))

    def test_a_relation_that_is_not_there(self):
        for name in ("p", "s", "relation", "q r"):
            self.check(("s",), (name, (1, None, None)), [])
        state = State([("fact", "r", (1,))])
        self.check((), ("r", (1,)), [], state)

    def test_patterns_of_another_length(self):
        for layout in [(), ("s",), ("s", "t", "u", "z")]:
            for pattern in [(), (1,), (1, 0), (None, None), (1, 0, None, None), big(1) + (1,)]:
                self.check(layout, ("r", pattern), [])
            self.check(layout, ("q", ()), [])
            self.check(layout, ("q", (5, 5)), [])

    def test_values_by_position_in_the_columns_there(self):
        rows = [big(1, 2), big(3, 4), big(5, 6)]
        for columns, at in [(("a", "b", "c"), 0), (("b", "a", "c"), 1), (("c", "b", "a"), 2)]:
            items = [("relation", "r", columns, 8)] + [("fact", "r", row) for row in rows]
            state = State(items + [("structure", "s", "r", ("a",), 16, 8)])
            for row in rows:
                pattern = [None, None, None]
                pattern[at] = row[at]
                told = read_sectors(state, ("s",), ("r", tuple(pattern)))
                if at == 2:
                    self.assertEqual(told, of(R, 0, 1, 2))
                else:
                    number = 8 * bucket_of_values((row[at],), 16)
                    self.assertEqual(told, of(("structure", "s"), number))

    def test_great_values(self):
        self.check(("t",), ("r", (None, 10 ** 33, None)),
            helper.slow_read(STATE, ("t",), ("r", (None, 10 ** 33, None))))

    def test_only_used_sectors_are_read(self):
        for many in range(6):
            state = state_of(ROWS[:many])
            self.check((), ("r", (None, None, None)), of(R, *range(many)), state)


class AllReadTest(unittest.TestCase):
    def check(self, layout, calls, wanted, state=STATE):
        before = parts(state)
        kept = list(calls)
        with self.subTest(layout=layout, calls=calls):
            told = all_read(state, layout, calls)
            self.assertEqual(told, wanted)
            self.assertIs(type(told), list)
            told.append(("spoilt", 0))
            self.assertEqual(all_read(state, layout, calls), wanted)
        self.assertEqual((parts(state), calls), (before, kept))

    def test_none(self):
        self.check(("s",), [], [])
        self.check((), [("p", (1,)), ("r", (1,))], [])

    def test_each_sector_once(self):
        one = ("r", (1, None, None))
        four = ("r", (4, None, None))
        s = ("structure", "s")
        self.check(("s",), [one], of(s, 0))
        self.check(("s",), [one, one], of(s, 0))
        self.check(("s",), [four, one, ("r", (5, None, None)), ("r", (8, 0, None))], of(s, 0, 9, 10))
        self.check((), [one, four, ("r", (None, None, None))], of(R, 0, 1, 2, 3, 4))

    def test_sorted_over_relations_and_structures(self):
        calls = [
            ("r", (4, None, None)), ("r", (None, None, None)), ("q", (5,)), ("r", (2, None, None)), ("p", (1,)),
            ("q", (None,)),
        ]
        wanted = of(Q, 0) + of(R, 0, 1, 2, 3, 4) + of(("structure", "s"), 3, 9, 10)
        self.check(("s", "t"), calls, wanted)
        self.check(("t", "s"), calls[::-1], wanted)

    def test_each_call_is_read_where_it_alone_would_be(self):
        # The relation is read anyway, but the call is read in its bucket.
        calls = [("r", (None, None, None)), ("r", (1, None, None))]
        self.check(("s",), calls, of(R, 0, 1, 2, 3, 4) + of(("structure", "s"), 0))


class WrittenTest(unittest.TestCase):
    def check(self, before, after, layout, wanted):
        kept = (parts(before), parts(after))
        with self.subTest(layout=layout, wanted=wanted):
            told = written(before, after, layout)
            self.assertEqual(told, wanted)
            self.assertIs(type(told), list)
            told.append(("spoilt", 0))
            self.assertEqual(written(before, after, layout), wanted)
        self.assertEqual((parts(before), parts(after)), kept)

    def test_nothing(self):
        for layout in [(), ("s",), ("u", "t", "s", "z")]:
            self.check(STATE, STATE, layout, [])
            self.check(STATE, STATE.copy(), layout, [])
        self.check(State(), State(), (), [])

    def test_a_fact_comes(self):
        after = STATE.change([("comes", ("fact", "r", big(5)))])
        self.check(STATE, after, (), of(R, 5))
        self.check(STATE, after, ("s",), of(R, 5) + of(("structure", "s"), 1))
        self.check(STATE, after, ("z",), of(R, 5))
        self.check(STATE, after, ("t", "s"), of(R, 5) + of(("structure", "s"), 1) + of(("structure", "t"), 23))

    def test_a_fact_goes(self):
        after = STATE.change([("goes", (1, "r", big(4)))])
        self.check(STATE, after, (), of(R, 4))
        self.check(STATE, after, ("s", "z"), of(R, 4) + of(("structure", "s"), 10))
        after = STATE.change([("goes", (1, "r", big(0)))])
        self.check(STATE, after, (), of(R, 0, 1, 2, 3, 4))
        self.check(STATE, after, ("s",), of(R, 0, 1, 2, 3, 4) + of(("structure", "s"), 9, 10))

    def test_only_where_the_shapes_differ(self):
        after = STATE.change([("goes", (1, "r", big(4))), ("comes", ("fact", "r", big(2, 5)))])
        self.check(STATE, after, (), of(R, 3, 4))
        self.check(STATE, after, ("s",), of(R, 3, 4) + of(("structure", "s"), 4, 10))

    def test_relations_by_name_then_structures_by_name(self):
        after = STATE.change([("comes", ("fact", "q", (6,))), ("comes", ("fact", "r", big(5)))])
        z = 2 * bucket_of_values((6,), 2)
        wanted = of(Q, 0) + of(R, 5) + of(("structure", "s"), 1) + of(("structure", "t"), 23)
        wanted += of(("structure", "z"), z)
        for layout in [("s", "t", "z"), ("z", "t", "s"), ("t", "z", "s")]:
            self.check(STATE, after, layout, wanted)

    def test_by_index_with_more_than_ten(self):
        rows = [big(number) for number in range(12)]
        before = State([("relation", "r", ("a", "b", "c"), 13)] + [("fact", "r", row) for row in rows])
        self.check(before, before.change([("goes", (1, "r", big(0)))]), (), of(R, *range(12)))

    def test_the_other_way_round(self):
        after = STATE.change([("comes", ("fact", "r", big(5)))])
        self.check(after, STATE, ("s",), of(R, 5) + of(("structure", "s"), 1))


class CostTest(unittest.TestCase):
    def test_reads_and_writes(self):
        after = STATE.change([("comes", ("fact", "r", big(5)))])
        everything = ("r", (None, None, None))
        one = ("r", (1, None, None))
        for layout, calls, wanted in [
            ((), [], 1), ((), [everything], 6), ((), [everything, one], 6), (("s",), [one], 3), (("s",), [], 2),
            (("s",), [everything, one], 8), (("s", "t"), [everything, one], 9),
        ]:
            with self.subTest(layout=layout, calls=calls):
                self.assertEqual(cost(STATE, after, layout, calls), wanted)
                self.assertEqual(cost(STATE, STATE, layout, calls), len(all_read(STATE, layout, calls)))

    def test_calls_are_read_in_the_state_before(self):
        after = STATE.change([("goes", (1, "r", row)) for row in ROWS])
        calls = [("r", (None, None, None))]
        self.assertEqual(cost(STATE, after, (), calls), 10)
        self.assertEqual(cost(after, STATE, (), calls), 5)

    def test_excesses_over_all_offered_layouts(self):
        layouts = [("layout", "c", ("s",)), ("layout", "a", ()), ("layout", "b", ("t", "s"))]
        state = STATE.change([("comes", layout) for layout in layouts])
        after = state.change([("comes", ("fact", "r", big(5)))])
        one = ("r", (1, None, None))
        self.assertEqual(excesses(state, state, [one]), [4, 0, 0])
        self.assertEqual(excesses(state, after, [one]), [3, 1, 0])
        self.assertEqual(excesses(state, after, []), [0, 2, 1])
        self.assertEqual(excesses(state, state, []), [0, 0, 0])
        self.assertEqual(excesses(state, state, [("r", (None, None, None)), ("p", ())]), [0, 0, 0])

    def test_excesses_on_the_offered_layouts_before(self):
        after = STATE.change([("comes", ("fact", "r", big(5)))])
        self.assertEqual(excesses(STATE, after, [("r", (1, None, None))]), [0])
        self.assertEqual(excesses(State(), State(), []), [0])
        state = STATE.change([("comes", ("layout", "a", ("s",)))])
        self.assertEqual(excesses(state, state, [("r", (None, None, None))]), [0])

    def test_the_list_is_new(self):
        told = excesses(STATE, STATE, [])
        self.assertIs(type(told), list)
        told.append(1)
        self.assertEqual(excesses(STATE, STATE, []), [0])


class WayTest(unittest.TestCase):
    # The rooms: "r" 8, "q" 2, "s" 12, "t" 24, "u" 8, "z" 4.
    LAID = {"s": 20, "t": 32, "u": 16, "z": 6}

    def test_laying(self):
        for name, wanted in self.LAID.items():
            self.assertEqual(laying(STATE, name), wanted)

    def test_rows_do_not_matter(self):
        bare = State([item for item in STATE.all_items() if item[0] != "fact"])
        for name, wanted in self.LAID.items():
            self.assertEqual(laying(bare, name), wanted)

    def test_stands(self):
        self.assertEqual(stands(STATE, ()), 0)
        self.assertEqual(stands(STATE, ("s",)), 20)
        for layout in [("s", "t", "z"), ("z", "s", "t")]:
            self.assertEqual(stands(STATE, layout), 58)
        self.assertEqual(stands(STATE, ("s", "t", "u", "z")), 74)

    def test_going_and_the_way(self):
        for first, second, there, back in [
            ((), (), 0, 0), ((), ("s",), 20, 0), (("s",), (), 0, 20), (("s",), ("s",), 0, 0),
            (("s", "t"), ("t", "s"), 0, 0), (("s", "t"), ("u", "t"), 16, 20), (("t", "z"), ("s", "u"), 36, 38),
            (("s",), ("t", "u", "s"), 48, 0),
        ]:
            with self.subTest(first=first, second=second):
                self.assertEqual(going(STATE, first, second), there)
                self.assertEqual(going(STATE, second, first), back)
                self.assertEqual(way(STATE, first, second), there + back)
                self.assertEqual(way(STATE, second, first), there + back)
                half = way(STATE, first, second) + stands(STATE, second) - stands(STATE, first)
                self.assertEqual(half, 2 * there)


class DrawnTest(unittest.TestCase):
    def test_against_the_words_of_the_document(self):
        draw = helper.drawing(3)
        different = 0
        for _ in range(120):
            state = helper.drawn_state(draw)
            after = helper.drawn_change(draw, state)
            kept = (parts(state), parts(after))
            calls = [helper.drawn_call(draw) for _ in range(draw.randrange(6))]
            numbers = []
            self.assertEqual(offered(state), helper.slow_offered(state))
            for layout in offered(state):
                for call in calls:
                    self.assertEqual(read_sectors(state, layout, call), helper.slow_read(state, layout, call))
                self.assertEqual(all_read(state, layout, calls), helper.slow_all_read(state, layout, calls))
                self.assertEqual(written(state, after, layout), helper.slow_written(state, after, layout))
                numbers.append(helper.slow_cost(state, after, layout, calls))
                self.assertEqual(cost(state, after, layout, calls), numbers[-1])
                self.assertEqual(stands(state, layout), helper.slow_stands(state, layout))
                for other in offered(state):
                    self.assertEqual(way(state, layout, other), helper.slow_way(state, layout, other))
            self.assertEqual(excesses(state, after, calls), [number - min(numbers) for number in numbers])
            different += min(numbers) < max(numbers)
            self.assertEqual((parts(state), parts(after)), kept)
        self.assertGreater(different, 20)


if __name__ == "__main__":
    unittest.main()
