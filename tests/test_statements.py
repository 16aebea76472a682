"""Tests of statements (point 14, with 5 to 7, 9, 12, 16 to 18 where it leans on them, and 3)."""

import copy
import random
import unittest

from turnshelves.errors import Refused, ShelfError
from turnshelves.questions import answer, calls
from turnshelves.shapes import bucket_of_values, relation_shape, structure_shape
from turnshelves.states import State
from turnshelves.statements import say, statement_calls

ANY = ("any",)
X, Y = ("variable", "x"), ("variable", "y")

# The structure "z" is over the relation "q", the two others are over "r".
ITEMS = [
    ("relation", "empty", ("a",), 1),
    ("relation", "q", ("c",), 1),
    ("relation", "r", ("a", "b"), 2),
    ("fact", "q", (5,)),
    ("fact", "r", (1, 2)),
    ("fact", "r", (1, "x")),
    ("structure", "m", "r", ("b",), 4, 1),
    ("structure", "t", "r", ("a", "b"), 2, 2),
    ("structure", "z", "q", ("c",), 1, 1),
    ("layout", "both", ("t", "m")),
    ("layout", "none", ()),
    ("layout", "one", ("m",)),
]
SHOWN = [item for item in ITEMS if item[0] != "fact"]
STATE = State(ITEMS)


def without(*items):
    return [item for item in ITEMS if item not in items]


def wide_row(many):
    """A row of two strings whose code has so many bytes."""
    return ("j" * 30, "k" * (many - 35))


def big_row(number):
    """A row that has a sector of its own among others of its kind."""
    return (number, "v" * 30)


def parts(state):
    return copy.deepcopy((state.relations, state.facts, state.structures, state.layouts))


def modify(state):
    """Modify everything in a state that can be modified."""
    for rows in state.facts.values():
        rows.append(("spoilt",))
    for table in (state.relations, state.facts, state.structures, state.layouts):
        table.clear()


class Base(unittest.TestCase):
    def check_said(self, state, statement, told, items):
        """The statement has this answer, and the new state has these items."""
        before = parts(state)
        with self.subTest(statement=statement):
            pair = say(state, statement)
            self.assertIs(type(pair), tuple)
            answered, made = pair
            self.assertEqual(answered, told)
            self.assertIs(type(answered), type(told))
            self.assertIs(type(made), State)
            self.assertEqual(made.all_items(), State(items).all_items())
            self.assertEqual(parts(made), parts(State(items)))
            self.assertEqual(parts(state), before)
            modify(made)
            self.assertEqual(parts(state), before)

    def check_refused(self, state, statement, problem):
        before = parts(state)
        with self.subTest(statement=statement):
            with self.assertRaises(Refused) as caught:
                say(state, statement)
            self.assertEqual(caught.exception.problem, problem)
            self.assertIs(type(caught.exception.problem), tuple)
            self.assertIsInstance(caught.exception, ShelfError)
            self.assertEqual(statement_calls(state, statement), [])
            self.assertEqual(parts(state), before)


class RelationTest(Base):
    def test_it_comes(self):
        for name in ("new", "m", "one", "relation"):
            item = ("relation", name, ("b", "a"), 3)
            self.check_said(STATE, item, None, ITEMS + [item])
        self.check_said(State(), ("relation", "r", ("a",), 40), None, [("relation", "r", ("a",), 40)])

    def test_rooms(self):
        for room in (0, -1, 41, 42, 100, -40):
            self.check_refused(STATE, ("relation", "new", ("a",), room), ("room",))
        for room in (1, 2, 39, 40):
            item = ("relation", "new", ("a",), room)
            self.check_said(STATE, item, None, ITEMS + [item])

    def test_repeated_columns(self):
        for columns, column in [
            (("a", "a"), "a"), (("a", "b", "a"), "a"), (("a", "b", "b"), "b"), (("a", "b", "b", "a"), "b"),
            (("a", "b", "c", "a", "c"), "a"),
        ]:
            self.check_refused(STATE, ("relation", "new", columns, 1), ("repeated", column))

    def test_the_order_of_problems(self):
        self.check_refused(STATE, ("relation", "r", ("a",), 1), ("exists", "relation", "r"))
        self.check_refused(STATE, ("relation", "r", ("a", "a"), 0), ("exists", "relation", "r"))
        self.check_refused(STATE, ("relation", "r", ("a",), 41), ("exists", "relation", "r"))
        self.check_refused(STATE, ("relation", "new", ("a", "a"), 0), ("repeated", "a"))

    def test_no_columns_are_not_refused(self):
        item = ("relation", "new", (), 1)
        self.check_said(STATE, item, None, ITEMS + [item])
        state = State([item])
        self.check_said(state, ("add", "new", ()), True, [item, ("fact", "new", ())])


class DropTest(Base):
    def test_the_relation_and_its_facts_go(self):
        self.check_said(STATE, ("drop", "empty"), None, without(ITEMS[0]))
        bare = [item for item in ITEMS if item[0] in ("relation", "fact")]
        left = [item for item in bare if item[1] != "r"]
        self.check_said(State(bare), ("drop", "r"), None, left)
        self.assertNotIn("r", say(State(bare), ("drop", "r"))[1].facts)

    def test_many_facts_go(self):
        facts = [("fact", "r", (number, str(number))) for number in range(200)]
        state = State([("relation", "r", ("a", "b"), 40), ("relation", "s", ("a",), 1), *facts])
        self.check_said(state, ("drop", "r"), None, [("relation", "s", ("a",), 1)])

    def test_it_may_come_again_without_facts(self):
        state = State([item for item in ITEMS if item[0] in ("relation", "fact")])
        dropped = say(state, ("drop", "r"))[1]
        again = say(dropped, ("relation", "r", ("x",), 1))[1]
        self.assertEqual(again.facts["r"], [])

    def test_no_relation(self):
        for name in ("new", "m", "one"):
            self.check_refused(STATE, ("drop", name), ("no relation", name))
        self.check_refused(State([("fact", "lost", (1,))]), ("drop", "lost"), ("no relation", "lost"))

    def test_used_by_the_first_structure_over_it(self):
        self.check_refused(STATE, ("drop", "r"), ("used", "m"))
        self.check_refused(STATE, ("drop", "q"), ("used", "z"))
        state = State(without(ITEMS[6]))
        self.check_refused(state, ("drop", "r"), ("used", "t"))
        turned = State(without(ITEMS[6]) + [ITEMS[6], ("structure", "a", "q", ("c",), 1, 1)])
        self.check_refused(turned, ("drop", "r"), ("used", "m"))
        self.check_refused(turned, ("drop", "q"), ("used", "a"))

    def test_a_structure_with_the_name_of_the_relation_is_not_over_it(self):
        items = ITEMS + [("structure", "empty", "q", ("c",), 1, 1)]
        self.check_said(State(items), ("drop", "empty"), None, items[1:])


class AddTest(Base):
    def test_a_fact_comes(self):
        for row in [(0, 0), (1, ""), (1, 1), (1, "y"), ("", ""), (-10 ** 30 + 1, "z")]:
            self.check_said(STATE, ("add", "r", row), True, ITEMS + [("fact", "r", row)])
        self.check_said(STATE, ("add", "empty", (5,)), True, ITEMS + [("fact", "empty", (5,))])

    def test_a_fact_that_is_there(self):
        for row in [(1, 2), (1, "x")]:
            self.check_said(STATE, ("add", "r", row), False, ITEMS)
        self.check_said(STATE, ("add", "r", (1, "2")), True, ITEMS + [("fact", "r", (1, "2"))])

    def test_no_relation(self):
        self.check_refused(STATE, ("add", "new", (1,)), ("no relation", "new"))
        self.check_refused(STATE, ("add", "m", (1, 2)), ("no relation", "m"))
        self.check_refused(STATE, ("add", "new", ("x" * 30, "x" * 30, "x")), ("no relation", "new"))
        self.check_refused(State([("fact", "lost", (1,))]), ("add", "lost", (1,)), ("no relation", "lost"))

    def test_width(self):
        for row in ((), (1,), (1, 2, 3), ("x" * 30, "x" * 30, "x" * 30)):
            self.check_refused(STATE, ("add", "r", row), ("width", "r"))
        self.check_refused(State(ITEMS[:3] + [("fact", "r", (7,))]), ("add", "r", (7,)), ("width", "r"))

    def test_long(self):
        state = State([("relation", "r", ("a", "b"), 1)])
        for many in (62, 63):
            items = [("relation", "r", ("a", "b"), 1), ("fact", "r", wide_row(many))]
            self.check_said(state, ("add", "r", wide_row(many)), True, items)
        for many in (64, 65):
            self.check_refused(state, ("add", "r", wide_row(many)), ("long",))

    def test_long_comes_before_full(self):
        items = [("relation", "r", ("a", "b"), 1), ("fact", "r", big_row(1))]
        self.check_refused(State(items), ("add", "r", wide_row(63)), ("full", "relation", "r"))
        self.check_refused(State(items), ("add", "r", wide_row(64)), ("long",))
        structure = [("structure", "s", "r", ("a",), 1, 1)]
        self.check_refused(State(items + structure), ("add", "r", wide_row(64)), ("long",))

    def test_a_relation_that_just_becomes_full(self):
        for room in (1, 2, 5, 40):
            relation = ("relation", "r", ("a", "b"), room)
            facts = [("fact", "r", big_row(number)) for number in range(room)]
            state = State([relation] + facts[1:])
            self.check_said(state, ("add", "r", big_row(0)), True, [relation] + facts)
            self.check_refused(State([relation] + facts), ("add", "r", big_row(room)), ("full", "relation", "r"))
            self.check_said(State([relation] + facts), ("add", "r", big_row(0)), False, [relation] + facts)

    def test_rows_that_just_fit_into_the_last_sector(self):
        # Rows of one small number have four bytes: fifteen of them leave three bytes of a sector.
        relation = ("relation", "r", ("a",), 2)
        items = [relation] + [("fact", "r", (number,)) for number in range(30)]
        for many, row, too_long in [(29, (200,), ("abcde",)), (29, ("abcd",), ("abcde",)), (30, ("",), ("a",))]:
            some = items[:1 + many]
            self.check_said(State(some), ("add", "r", row), True, some + [("fact", "r", row)])
            self.check_refused(State(some), ("add", "r", too_long), ("full", "relation", "r"))
        self.check_said(State(items[:30]), ("add", "r", (29,)), True, items)
        self.check_refused(State(items), ("add", "r", (30,)), ("full", "relation", "r"))

    def test_a_row_before_the_others_may_push_them_on(self):
        # The codes have 33 and 30 bytes and fill the sector; the row "" has 3 and is the first.
        relation = ("relation", "r", ("a",), 1)
        first, second = ("a" * 30,), ("b" * 27,)
        facts = [("fact", "r", first), ("fact", "r", second)]
        self.check_said(State([relation, facts[0]]), ("add", "r", second), True, [relation] + facts)
        self.check_refused(State([relation] + facts), ("add", "r", ("",)), ("full", "relation", "r"))
        self.check_refused(State([relation] + facts), ("add", "r", ("c",)), ("full", "relation", "r"))

    def test_a_structure_that_just_becomes_full(self):
        # Odd numbers have the first of two buckets, even ones the second.
        self.assertEqual([bucket_of_values((number,), 2) for number in range(4)], [1, 0, 1, 0])
        items = [("relation", "r", ("a", "b"), 9), ("structure", "s", "r", ("a",), 2, 2)]
        odd = [("fact", "r", big_row(number)) for number in (1, 3)]
        even = [("fact", "r", big_row(number)) for number in (0, 2)]
        self.check_said(State(items + odd[:1]), ("add", "r", big_row(3)), True, items + odd)
        self.check_refused(State(items + odd), ("add", "r", big_row(5)), ("full", "structure", "s"))
        self.check_said(State(items + odd), ("add", "r", big_row(0)), True, items + odd + even[:1])
        self.check_said(State(items + odd + even[:1]), ("add", "r", big_row(2)), True, items + odd + even)
        self.check_refused(State(items + odd + even), ("add", "r", big_row(4)), ("full", "structure", "s"))
        self.check_said(State(items + odd), ("add", "r", big_row(3)), False, items + odd)

    def test_the_relation_comes_before_its_structures(self):
        items = [("fact", "r", big_row(0)), ("structure", "a", "r", ("a",), 1, 1)]
        self.check_refused(
            State(items + [("relation", "r", ("a", "b"), 1)]), ("add", "r", big_row(1)), ("full", "relation", "r"))
        self.check_refused(
            State(items + [("relation", "r", ("a", "b"), 2)]), ("add", "r", big_row(1)), ("full", "structure", "a"))

    def test_the_first_structure_by_name_that_would_be_full(self):
        items = [("relation", "r", ("a", "b"), 40), ("fact", "r", big_row(0))]
        full_c = ("structure", "c", "r", ("b",), 1, 1)
        full_b = ("structure", "b", "r", ("b",), 1, 1)
        wide_a = ("structure", "a", "r", ("b",), 1, 8)
        other = ("structure", "a0", "q", ("a",), 1, 1)
        q = [("relation", "q", ("a", "b"), 1), ("fact", "q", big_row(0))]
        for structures in ([full_c, full_b, wide_a, other], [wide_a, full_b, full_c, other]):
            state = State(items + q + structures)
            self.check_refused(state, ("add", "r", big_row(1)), ("full", "structure", "b"))
            self.check_refused(state, ("add", "q", big_row(1)), ("full", "relation", "q"))
        self.check_refused(State(items + [wide_a, full_c]), ("add", "r", big_row(1)), ("full", "structure", "c"))

    def test_structures_over_other_relations_do_not_matter(self):
        # "s" is full over "q" from the beginning.
        items = [
            ("relation", "q", ("a", "b"), 9), ("fact", "q", big_row(0)), ("fact", "q", big_row(1)),
            ("structure", "s", "q", ("b",), 1, 1), ("relation", "r", ("a",), 1),
        ]
        self.check_said(State(items), ("add", "r", (1,)), True, items + [("fact", "r", (1,))])

    def test_a_fact_that_is_there_is_told_in_a_full_state_too(self):
        items = [
            ("relation", "r", ("a", "b"), 1), ("fact", "r", wide_row(70)), ("fact", "r", big_row(0)),
            ("fact", "r", big_row(1)), ("structure", "s", "r", ("b",), 1, 1),
        ]
        for row in (wide_row(70), big_row(0)):
            self.check_said(State(items), ("add", "r", row), False, items)


class RemoveTest(Base):
    def test_the_fact_goes(self):
        self.check_said(STATE, ("remove", "r", (1, 2)), True, without(("fact", "r", (1, 2))))
        self.check_said(STATE, ("remove", "q", (5,)), True, without(("fact", "q", (5,))))
        self.assertEqual(say(STATE, ("remove", "q", (5,)))[1].facts["q"], [])

    def test_a_fact_that_is_not_there(self):
        for row in [(1, 3), (2, 2), (1, "2"), ("", ""), ("x" * 30, "x" * 30)]:
            self.check_said(STATE, ("remove", "r", row), False, ITEMS)
        self.check_said(STATE, ("remove", "empty", (5,)), False, ITEMS)

    def test_problems(self):
        self.check_refused(STATE, ("remove", "new", (1,)), ("no relation", "new"))
        self.check_refused(STATE, ("remove", "t", (1, 2)), ("no relation", "t"))
        for row in ((), (1,), (1, 2, 3)):
            self.check_refused(STATE, ("remove", "r", row), ("width", "r"))
        self.check_refused(State([("fact", "lost", (1,))]), ("remove", "lost", (1,)), ("no relation", "lost"))

    def test_a_full_state_does_not_matter(self):
        items = [("relation", "r", ("a", "b"), 1), ("fact", "r", wide_row(70)), ("fact", "r", big_row(0))]
        self.check_said(State(items), ("remove", "r", wide_row(70)), True, [items[0], items[2]])
        self.check_said(State(items), ("remove", "r", wide_row(71)), False, items)


class StructureTest(Base):
    def test_it_comes(self):
        for item in [
            ("structure", "new", "r", ("b",), 1, 1), ("structure", "r", "r", ("a", "b"), 16, 8),
            ("structure", "one", "q", ("c",), 3, 2), ("structure", "new", "empty", ("a",), 2, 7),
            ("structure", "same", "r", ("b",), 4, 1),
        ]:
            self.check_said(STATE, item, None, ITEMS + [item])

    def test_no_columns_are_not_refused(self):
        item = ("structure", "new", "r", (), 2, 1)
        self.check_said(STATE, item, None, ITEMS + [item])

    def test_exists(self):
        self.check_refused(STATE, ("structure", "m", "q", ("c",), 1, 1), ("exists", "structure", "m"))

    def test_no_relation(self):
        for name in ("none", "m", "new"):
            self.check_refused(STATE, ("structure", "new", name, ("a",), 1, 1), ("no relation", name))

    def test_no_column(self):
        for columns, column in [(("c",), "c"), (("a", "c", "d"), "c"), (("d", "a", "c"), "d"), (("r",), "r")]:
            self.check_refused(STATE, ("structure", "new", "r", columns, 1, 1), ("no column", column))

    def test_repeated(self):
        for columns, column in [
            (("a", "a"), "a"), (("a", "b", "b"), "b"), (("a", "b", "b", "a"), "b"), (("a", "b", "a", "b"), "a"),
        ]:
            self.check_refused(STATE, ("structure", "new", "r", columns, 1, 1), ("repeated", column))

    def test_buckets_and_sectors(self):
        for buckets in (0, -1, 17, 18, 160):
            self.check_refused(STATE, ("structure", "new", "r", ("a",), buckets, 1), ("buckets",))
        for sectors in (0, -1, 9, 10, 80):
            self.check_refused(STATE, ("structure", "new", "r", ("a",), 1, sectors), ("sectors",))
        for buckets in (1, 2, 15, 16):
            for sectors in (1, 2, 7, 8):
                item = ("structure", "new", "r", ("a",), buckets, sectors)
                self.check_said(STATE, item, None, ITEMS + [item])

    def test_full(self):
        facts = [("fact", "r", big_row(number)) for number in (1, 3, 5, 0)]
        items = [("relation", "r", ("a", "b"), 9)] + facts
        # Three rows share the first bucket of two.
        for sectors in (1, 2):
            self.check_refused(
                State(items), ("structure", "s", "r", ("a",), 2, sectors), ("full", "structure", "s"))
        for columns, buckets, sectors in [(("a",), 2, 3), (("b",), 1, 4), (("b",), 16, 4), (("a",), 16, 1)]:
            item = ("structure", "s", "r", columns, buckets, sectors)
            self.check_said(State(items), item, None, items + [item])
        for buckets, sectors in [(1, 3), (16, 3)]:
            self.check_refused(
                State(items), ("structure", "s", "r", ("b",), buckets, sectors), ("full", "structure", "s"))

    def test_a_row_that_fits_nowhere(self):
        items = [("relation", "r", ("a", "b"), 9), ("fact", "r", wide_row(64))]
        self.check_refused(State(items), ("structure", "s", "r", ("a",), 16, 8), ("full", "structure", "s"))

    def test_a_full_structure_of_another_name_does_not_matter(self):
        items = [
            ("relation", "r", ("a", "b"), 1), ("fact", "r", big_row(0)), ("fact", "r", big_row(2)),
            ("structure", "a", "r", ("a",), 1, 1),
        ]
        item = ("structure", "s", "r", ("a",), 1, 2)
        self.check_said(State(items), item, None, items + [item])

    def test_the_order_of_problems(self):
        facts = [("fact", "r", big_row(number)) for number in range(4)]
        state = State(ITEMS + facts)
        parts_of = [
            ("m", ("exists", "structure", "m")), ("none", ("no relation", "none")),
            (("b", "b", "c"), ("no column", "c")), (("b", "b"), ("repeated", "b")),
            (17, ("buckets",)), (9, ("sectors",)), (None, ("full", "structure", "new")),
        ]
        name, relation, column, columns, buckets, sectors = [part for part, _ in parts_of[:6]]
        problems = [problem for _, problem in parts_of]
        statements = [
            ("structure", name, relation, column, buckets, sectors),
            ("structure", "new", relation, column, buckets, sectors),
            ("structure", "new", "r", column, buckets, sectors),
            ("structure", "new", "r", columns, buckets, sectors),
            ("structure", "new", "r", ("b",), buckets, sectors),
            ("structure", "new", "r", ("b",), 1, sectors),
            ("structure", "new", "r", ("b",), 1, 1),
        ]
        for statement, problem in zip(statements, problems):
            self.check_refused(state, statement, problem)
        self.check_refused(state, ("structure", "new", "r", ("b",), 0, 0), ("buckets",))
        self.check_refused(state, ("structure", "new", "r", ("b",), 1, 0), ("sectors",))


class TakeTest(Base):
    def test_the_structure_goes(self):
        self.check_said(STATE, ("take", "z"), None, without(ITEMS[8]))
        bare = [item for item in ITEMS if item[0] != "layout"]
        for at in (6, 7, 8):
            self.check_said(
                State(bare), ("take", ITEMS[at][1]), None, [item for item in bare if item != ITEMS[at]])

    def test_no_structure(self):
        for name in ("new", "r", "one"):
            self.check_refused(STATE, ("take", name), ("no structure", name))

    def test_used_by_the_first_layout(self):
        self.check_refused(STATE, ("take", "m"), ("used", "both"))
        self.check_refused(STATE, ("take", "t"), ("used", "both"))
        state = State(without(ITEMS[9]) + [("layout", "a", ("z",)), ("layout", "p", ("z", "m"))])
        self.check_refused(state, ("take", "m"), ("used", "one"))
        self.check_refused(state, ("take", "z"), ("used", "a"))
        self.check_said(state, ("take", "t"), None, [item for item in state.all_items() if item != ITEMS[7]])

    def test_the_first_layout_is_that_by_name_however_they_came(self):
        layouts = [("layout", "c", ("m", "z")), ("layout", "a", ("z",)), ("layout", "b", ("m",))]
        for order in (layouts, layouts[::-1], layouts[1:] + layouts[:1]):
            state = State([item for item in ITEMS if item[0] != "layout"] + order)
            self.check_refused(state, ("take", "z"), ("used", "a"))
            self.check_refused(state, ("take", "m"), ("used", "b"))


class LayoutTest(Base):
    def test_it_comes(self):
        for item in [
            ("layout", "new", ("t",)), ("layout", "r", ("z",)), ("layout", "m", ("z", "m")),
            ("layout", "new", ("m", "t", "z")),
        ]:
            self.check_said(STATE, item, None, ITEMS + [item])
        self.check_said(State(), ("layout", "l", ()), None, [("layout", "l", ())])

    def test_exists(self):
        self.check_refused(STATE, ("layout", "one", ("z",)), ("exists", "layout", "one"))
        self.check_refused(STATE, ("layout", "none", ()), ("exists", "layout", "none"))

    def test_no_structure(self):
        for structures, name in [(("r",), "r"), (("m", "new", "k"), "new"), (("k", "m", "new"), "k")]:
            self.check_refused(STATE, ("layout", "new", structures), ("no structure", name))

    def test_repeated(self):
        for structures, name in [
            (("m", "m"), "m"), (("m", "t", "t", "m"), "t"), (("m", "t", "m", "t"), "m"), (("z", "t", "t"), "t"),
        ]:
            self.check_refused(STATE, ("layout", "new", structures), ("repeated", name))

    def test_same_in_any_order(self):
        self.check_refused(STATE, ("layout", "new", ("t", "m")), ("same", "both"))
        self.check_refused(STATE, ("layout", "new", ("m", "t")), ("same", "both"))
        self.check_refused(STATE, ("layout", "new", ()), ("same", "none"))
        self.check_refused(STATE, ("layout", "new", ("m",)), ("same", "one"))

    def test_the_first_layout_by_name_that_is_the_same(self):
        state = State([("layout", "b", ("m", "t")), ("layout", "a", ("t", "m")), ("layout", "a0", ("m",)), *ITEMS])
        for structures in (("t", "m"), ("m", "t")):
            self.check_refused(state, ("layout", "new", structures), ("same", "a"))

    def test_the_order_of_problems(self):
        self.check_refused(STATE, ("layout", "one", ("k", "m", "m")), ("exists", "layout", "one"))
        self.check_refused(STATE, ("layout", "one", ("m",)), ("exists", "layout", "one"))
        self.check_refused(STATE, ("layout", "new", ("m", "m", "k")), ("no structure", "k"))
        twice = State(ITEMS + [("layout", "odd", ("m", "m"))])
        self.check_refused(twice, ("layout", "new", ("m", "m")), ("repeated", "m"))

    def test_more_than_six_layouts_are_not_refused(self):
        items = [("structure", f"s{number}", "r", ("a",), 1, 1) for number in range(9)]
        state = State([("relation", "r", ("a",), 1), *items])
        for number in range(9):
            state = say(state, ("layout", f"l{number}", (f"s{number}",)))[1]
        self.assertEqual(len(state.layouts), 9)


class LeaveTest(Base):
    def test_the_layout_goes(self):
        for at in (9, 10, 11):
            self.check_said(STATE, ("leave", ITEMS[at][1]), None, without(ITEMS[at]))

    def test_no_layout(self):
        for name in ("new", "m", "r"):
            self.check_refused(STATE, ("leave", name), ("no layout", name))


class AskAndShowTest(Base):
    def test_ask(self):
        body = (("fact", "r", (X, Y)),)
        self.check_said(STATE, ("ask", body), (("x", "y"), [(1, 2), (1, "x")]), ITEMS)
        self.check_said(STATE, ("ask", ()), ((), [()]), ITEMS)
        self.check_said(STATE, ("ask", (("count", "n", "r", (ANY, ANY)),)), (("n",), [(2,)]), ITEMS)
        told = say(STATE, ("ask", body))[0]
        self.assertEqual(told, answer(STATE, body))
        self.assertEqual([type(part) for part in told], [tuple, list])

    def test_ask_with_problems(self):
        self.check_refused(STATE, ("ask", (("fact", "new", (X,)),)), ("no relation", "new"))
        self.check_refused(STATE, ("ask", (("fact", "r", (X,)),)), ("width", "r"))
        self.check_refused(STATE, ("ask", (("not", "r", (X, Y)),)), ("unbound", "x"))
        self.check_refused(STATE, ("ask", (("compare", "=", ANY, X),)), ("any",))
        self.check_refused(STATE, ("ask", (("count", "x", "q", (X,)),)), ("own total", "x"))

    def test_show(self):
        self.check_said(STATE, ("show",), SHOWN, ITEMS)
        self.check_said(State(ITEMS[::-1]), ("show",), SHOWN, ITEMS)
        self.check_said(State(), ("show",), [], [])
        self.check_said(State([("fact", "r", (1,))]), ("show",), [], [("fact", "r", (1,))])

    def test_answers_are_new(self):
        for statement in (("show",), ("ask", (("fact", "q", (X,)),))):
            before = parts(STATE)
            told, made = say(STATE, statement)
            (told if statement[0] == "show" else told[1]).clear()
            self.assertEqual(parts(STATE), before)
            self.assertEqual(parts(made), before)
            self.assertNotEqual(say(STATE, statement)[0], told)


class CallsTest(Base):
    def check_calls(self, statement, told):
        before = parts(STATE)
        with self.subTest(statement=statement):
            found = statement_calls(STATE, statement)
            self.assertEqual(found, told)
            self.assertIs(type(found), list)
            found.clear()
            self.assertEqual(statement_calls(STATE, statement), told)
            self.assertEqual(parts(STATE), before)

    def test_add_and_remove(self):
        for word in ("add", "remove"):
            for row in [(1, 2), (1, 7), ("", 0)]:
                self.check_calls((word, "r", row), [("r", row)])
            self.check_calls((word, "q", (5,)), [("q", (5,))])

    def test_ask(self):
        body = (("fact", "r", (X, Y)), ("not", "q", (Y,)), ("count", "n", "r", (X, ANY)))
        self.check_calls(("ask", body), [
            ("r", (None, None)), ("q", (2,)), ("q", ("x",)), ("r", (1, None)), ("r", (1, None)),
        ])
        self.assertEqual(statement_calls(STATE, ("ask", body)), calls(STATE, body))
        self.check_calls(("ask", ()), [])

    def test_other_statements(self):
        for statement in [
            ("relation", "new", ("a",), 1), ("drop", "empty"), ("structure", "new", "r", ("a",), 1, 8),
            ("take", "z"), ("layout", "new", ("z",)), ("leave", "one"), ("show",),
        ]:
            say(STATE, statement)
            self.check_calls(statement, [])

    def test_refused_ones(self):
        for statement in [
            ("relation", "r", ("a",), 1), ("drop", "r"), ("add", "new", (1,)), ("add", "r", (1,)),
            ("add", "r", ("x" * 30, "x" * 29)), ("remove", "new", (1,)), ("remove", "r", (1, 2, 3)),
            ("structure", "m", "r", ("a",), 1, 1), ("take", "m"), ("layout", "new", ()), ("leave", "new"),
            ("ask", (("fact", "r", (X, Y)), ("fact", "new", (X,)))),
            ("ask", (("fact", "r", (X, Y)), ("compare", "=", X, ANY))),
        ]:
            with self.assertRaises(Refused):
                say(STATE, statement)
            self.check_calls(statement, [])

    def test_an_add_that_is_refused_as_full(self):
        items = [
            ("relation", "r", ("a", "b"), 1), ("fact", "r", big_row(0)),
            ("relation", "s", ("a", "b"), 9), ("fact", "s", big_row(0)), ("structure", "t", "s", ("b",), 1, 1),
        ]
        state = State(items)
        for name in ("r", "s"):
            self.assertEqual(statement_calls(state, ("add", name, big_row(1))), [])
            self.assertEqual(statement_calls(state, ("add", name, big_row(0))), [(name, big_row(0))])
            self.assertEqual(statement_calls(state, ("remove", name, big_row(1))), [(name, big_row(1))])


class ManyStatementsTest(unittest.TestCase):
    def test_nothing_that_is_said_makes_a_state_full(self):
        draw = random.Random(2)
        items = [
            ("relation", "r", ("a", "b"), 4), ("structure", "s", "r", ("a",), 3, 2),
            ("structure", "t", "r", ("b", "a"), 2, 3),
        ]
        state = State(items)
        rows = [(number % 6, "v" * draw.randrange(25)) for number in range(60)]
        told = {}
        for _ in range(500):
            row = draw.choice(rows)
            word = draw.choice(["add", "add", "remove"])
            there = row in state.facts["r"]
            try:
                answered, made = say(state, (word, "r", row))
            except Refused as refused:
                self.assertFalse(there)
                bigger = state.change([("comes", ("fact", "r", row))])
                full = [("full", "relation", "r")] if relation_shape(bigger, "r") is None else []
                full += [("full", "structure", name) for name in "st" if structure_shape(bigger, name) is None]
                self.assertEqual(refused.problem, full[0])
                told[refused.problem] = True
                continue
            self.assertIs(answered, there == (word == "remove"))
            self.assertEqual(made.has("r", row), word == "add")
            self.assertIsNotNone(relation_shape(made, "r"))
            self.assertIsNotNone(structure_shape(made, "s"))
            self.assertIsNotNone(structure_shape(made, "t"))
            state = made
        self.assertGreater(len(told), 1)


if __name__ == "__main__":
    unittest.main()
