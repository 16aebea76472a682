"""Tests of states and changes (points 3, 5, 6 and 7)."""

import copy
import itertools
import unittest

from turnshelves.states import State, between
from turnshelves.values import key_of, key_order, row_key

MOST = 10 ** 30 - 1

# Items of all four sorts, in the order of keys.
ITEMS = [
    ("relation", "a", ("x", "y"), 40),
    ("relation", "b", ("x",), 1),
    ("relation", "same", ("c",), 2),
    ("fact", "a", (-MOST, "z")),
    ("fact", "a", (-1, 0)),
    ("fact", "a", (2, "")),
    ("fact", "a", (10, "a")),
    ("fact", "a", ("", 5)),
    ("fact", "a", ("10", 5)),
    ("fact", "a", ("2", 5)),
    ("fact", "lost", (1,)),
    ("fact", "same", (MOST,)),
    ("structure", "s", "a", ("y", "x"), 16, 8),
    ("structure", "same", "same", ("c",), 1, 1),
    ("layout", "none", ()),
    ("layout", "same", ("same", "s")),
]


def parts(state):
    """A deep copy of the attributes of a state."""
    return copy.deepcopy((state.relations, state.facts, state.structures, state.layouts))


def modify(state):
    """Modify everything in a state that can be modified."""
    for rows in state.facts.values():
        rows.append(("spoilt",))
    for table in (state.relations, state.facts, state.structures, state.layouts):
        table.clear()
        table["spoilt"] = ()


def model(items, changes):
    """The items after some changes, by the words of points 6 and 7 alone."""
    kept = {key_of(item): item for item in items}
    for word, told in changes:
        if word == "comes":
            kept[key_of(told)] = told
        else:
            kept.pop(told, None)
    return [kept[key] for key in sorted(kept, key=key_order)]


class StateTest(unittest.TestCase):
    def check_facts(self, state):
        """The lists of facts are those of point 6 and the interface."""
        items = state.all_items()
        names = {item[1] for item in items if item[0] in ("relation", "fact")}
        self.assertEqual(set(state.facts), names)
        for name in names:
            rows = [item[2] for item in items if item[:2] == ("fact", name)]
            self.assertIs(type(state.facts[name]), list)
            self.assertEqual(state.facts[name], sorted(rows, key=row_key))

    def test_no_items(self):
        for state in (State(), State(()), State([]), State(items=())):
            self.assertEqual(parts(state), ({}, {}, {}, {}))
            self.assertEqual(state.all_items(), [])

    def test_states_without_items_share_nothing(self):
        modify(State())
        self.assertEqual(parts(State()), ({}, {}, {}, {}))

    def test_attributes(self):
        state = State(ITEMS)
        self.assertEqual(state.relations, {"a": (("x", "y"), 40), "b": (("x",), 1), "same": (("c",), 2)})
        self.assertEqual(state.facts, {
            "a": [(-MOST, "z"), (-1, 0), (2, ""), (10, "a"), ("", 5), ("10", 5), ("2", 5)],
            "b": [],
            "lost": [(1,)],
            "same": [(MOST,)],
        })
        self.assertEqual(state.structures, {"s": ("a", ("y", "x"), 16, 8), "same": ("same", ("c",), 1, 1)})
        self.assertEqual(state.layouts, {"none": (), "same": ("same", "s")})

    def test_kinds_of_the_attributes(self):
        state = State(ITEMS)
        for table in (state.relations, state.facts, state.structures, state.layouts):
            self.assertIs(type(table), dict)
        for table in (state.relations, state.structures, state.layouts):
            self.assertEqual({type(worth) for worth in table.values()}, {tuple})
        self.assertEqual({type(rows) for rows in state.facts.values()}, {list})

    def test_items_in_any_order(self):
        orders = [ITEMS, ITEMS[::-1], ITEMS[5:] + ITEMS[:5], ITEMS[::2] + ITEMS[1::2], tuple(ITEMS[::-1])]
        for items in orders:
            state = State(items)
            self.assertEqual(state.all_items(), ITEMS)
            self.assertEqual(parts(state), parts(State(ITEMS)))

    def test_few_items_in_every_order(self):
        items = [ITEMS[0], ITEMS[4], ITEMS[8], ITEMS[10], ITEMS[12], ITEMS[14]]
        for order in itertools.permutations(items):
            state = State(order)
            self.assertEqual(state.all_items(), items)
            self.check_facts(state)

    def test_rows_in_every_order(self):
        rows = [(), (-3,), (-3, 0), (2,), (10,), ("",), ("a",)]
        for order in itertools.permutations(rows, 5):
            state = State([("fact", "r", row) for row in order])
            self.assertEqual(state.facts, {"r": sorted(order, key=row_key)})

    def test_many_rows(self):
        rows = [(number % 7, str(number), -number) for number in range(300)]
        state = State([("fact", "r", row) for row in rows + rows])
        self.assertEqual(state.facts["r"], sorted(rows, key=row_key))
        self.assertTrue(all(state.has("r", row) for row in rows))
        self.assertFalse(any(state.has("r", row[:2]) for row in rows))

    def test_of_one_key_the_last_one_counts(self):
        first = [("relation", "r", ("a",), 1), ("structure", "r", "r", ("a",), 1, 1), ("layout", "r", ())]
        second = [("relation", "r", ("b", "c"), 2), ("structure", "r", "q", ("b",), 2, 3), ("layout", "r", ("r",))]
        fact = [("fact", "r", (1,))]
        state = State(first + fact + second + fact)
        self.assertEqual(state.all_items(), [second[0], fact[0], second[1], second[2]])
        self.assertEqual(state.relations, {"r": (("b", "c"), 2)})
        self.assertEqual(state.facts, {"r": [(1,)]})
        self.assertEqual(state.structures, {"r": ("q", ("b",), 2, 3)})
        self.assertEqual(state.layouts, {"r": ("r",)})
        for at in range(3):
            self.assertEqual(State([second[at], first[at]]).all_items(), [first[at]])

    def test_one_name_for_all_sorts(self):
        items = [
            ("relation", "r", ("r",), 1), ("fact", "r", ("r",)),
            ("structure", "r", "r", ("r",), 1, 1), ("layout", "r", ("r",)),
        ]
        state = State(items[::-1])
        self.assertEqual(state.all_items(), items)
        for at, item in enumerate(items):
            left = state.change([("goes", key_of(item))])
            self.assertEqual(left.all_items(), items[:at] + items[at + 1:])

    def test_facts_without_a_relation(self):
        state = State([("fact", "r", (2, 3)), ("fact", "r", (1,))])
        self.assertEqual(parts(state), ({}, {"r": [(1,), (2, 3)]}, {}, {}))
        self.assertEqual(state.all_items(), [("fact", "r", (1,)), ("fact", "r", (2, 3))])

    def test_only_relations_and_facts_have_lists_of_facts(self):
        state = State([("structure", "s", "r", ("a",), 1, 1), ("layout", "l", ("s",))])
        self.assertEqual(state.facts, {})

    def test_has(self):
        state = State(ITEMS)
        for item in ITEMS:
            if item[0] == "fact":
                self.assertIs(state.has(item[1], item[2]), True)
        absent = [
            ("a", ()), ("a", (-1,)), ("a", (-1, 0, 0)), ("a", (-1, "0")), ("a", ("-1", 0)), ("a", (0, 0)),
            ("a", ("zz", 0)), ("a", (-MOST, "y")), ("b", ()), ("b", (1,)), ("lost", (2,)), ("lost", ("1",)),
            ("nothing", (1,)), ("nothing", ()), ("s", ()), ("none", ()), ("same", ()),
        ]
        for name, row in absent:
            with self.subTest(name=name, row=row):
                self.assertIs(state.has(name, row), False)

    def test_has_changes_nothing(self):
        state = State(ITEMS)
        before = parts(state)
        state.has("nothing", (1,))
        state.has("b", (1,))
        self.assertEqual(parts(state), before)

    def test_arguments_stay_as_they_were(self):
        items = list(ITEMS)
        state = State(items)
        self.assertEqual(items, ITEMS)
        items.clear()
        items.append(("relation", "late", ("x",), 1))
        self.assertEqual(state.all_items(), ITEMS)

    def test_returned_lists_are_new(self):
        state = State(ITEMS)
        told = state.all_items()
        self.assertIs(type(told), list)
        told.clear()
        self.assertEqual(state.all_items(), ITEMS)

    def test_copy(self):
        state = State(ITEMS)
        made = state.copy()
        self.assertIs(type(made), State)
        self.assertEqual(parts(made), parts(state))
        self.assertEqual(made.all_items(), ITEMS)

    def test_copy_shares_nothing(self):
        state = State(ITEMS)
        modify(state.copy())
        self.assertEqual(parts(state), parts(State(ITEMS)))
        made = state.copy()
        modify(state)
        self.assertEqual(parts(made), parts(State(ITEMS)))

    def test_same_schema(self):
        state = State(ITEMS)
        self.assertIs(state.same_schema(state), True)
        self.assertIs(state.same_schema(state.copy()), True)
        self.assertIs(State().same_schema(State()), True)

    def test_same_schema_does_not_look_at_facts(self):
        state = State(ITEMS)
        bare = State([item for item in ITEMS if item[0] != "fact"])
        self.assertIs(state.same_schema(bare), True)
        self.assertIs(bare.same_schema(state), True)
        self.assertIs(State([("fact", "r", (1,))]).same_schema(State()), True)

    def test_same_schema_looks_at_all_else(self):
        state = State(ITEMS)
        others = [
            [("comes", ("relation", "c", ("x",), 1))],
            [("comes", ("relation", "a", ("x", "y"), 39))],
            [("comes", ("relation", "a", ("y", "x"), 40))],
            [("goes", (0, "b", ()))],
            [("comes", ("structure", "t", "a", ("x",), 1, 1))],
            [("comes", ("structure", "s", "b", ("y", "x"), 16, 8))],
            [("comes", ("structure", "s", "a", ("x", "y"), 16, 8))],
            [("comes", ("structure", "s", "a", ("y", "x"), 15, 8))],
            [("comes", ("structure", "s", "a", ("y", "x"), 16, 7))],
            [("goes", (2, "s", ()))],
            [("comes", ("layout", "l", ()))],
            [("comes", ("layout", "same", ("s", "same")))],
            [("goes", (3, "none", ()))],
        ]
        for changes in others:
            with self.subTest(changes=changes):
                self.assertIs(state.same_schema(state.change(changes)), False)
                self.assertIs(state.change(changes).same_schema(state), False)


class ChangeTest(unittest.TestCase):
    def check_change(self, items, changes):
        """The changes make what the words of point 7 tell; all else stays."""
        state = State(items)
        before = parts(state)
        told = list(changes)
        made = state.change(changes)
        self.assertIs(type(made), State)
        self.assertEqual(made.all_items(), model(items, told))
        self.assertEqual(parts(made), parts(State(model(items, told))))
        self.assertEqual(parts(state), before)
        self.assertEqual(changes, told)
        return made

    def test_no_changes(self):
        self.check_change(ITEMS, [])
        self.check_change([], [])

    def test_every_item_comes_to_no_items(self):
        self.check_change([], [("comes", item) for item in ITEMS[::-1]])

    def test_every_item_goes(self):
        for item in ITEMS:
            self.check_change(ITEMS, [("goes", key_of(item))])
        made = self.check_change(ITEMS, [("goes", key_of(item)) for item in ITEMS])
        self.assertEqual(parts(made), ({}, {}, {}, {}))

    def test_items_come_that_are_there(self):
        for item in ITEMS:
            made = self.check_change(ITEMS, [("comes", item)])
            self.assertEqual(made.all_items(), ITEMS)

    def test_items_come_in_the_place_of_others(self):
        made = self.check_change(ITEMS, [
            ("comes", ("relation", "a", ("z",), 3)),
            ("comes", ("structure", "s", "b", ("x",), 2, 4)),
            ("comes", ("layout", "same", ())),
        ])
        self.assertEqual(made.relations["a"], (("z",), 3))
        self.assertEqual(made.facts["a"], State(ITEMS).facts["a"])
        self.assertEqual(made.structures["s"], ("b", ("x",), 2, 4))
        self.assertEqual(made.layouts["same"], ())

    def test_goes_without_an_item_changes_nothing(self):
        keys = [
            (0, "lost", ()), (0, "s", ()), (0, "none", ()), (1, "nothing", (1,)), (1, "b", (1,)),
            (1, "a", (-1,)), (1, "a", (-1, "0")), (1, "a", ()), (2, "a", ()), (2, "none", ()), (3, "s", ()),
        ]
        for key in keys:
            with self.subTest(key=key):
                made = self.check_change(ITEMS, [("goes", key)])
                self.assertEqual(made.all_items(), ITEMS)
                self.check_change([], [("goes", key)])

    def test_goes_with_a_row_that_no_key_of_an_item_has(self):
        for key in ((0, "a", (1,)), (0, "b", ("",)), (2, "s", (1,)), (3, "same", (0, 0)), (3, "none", (1,))):
            with self.subTest(key=key):
                made = self.check_change(ITEMS, [("goes", key)])
                self.assertEqual(made.all_items(), ITEMS)

    def test_a_relation_goes_and_its_facts_stay(self):
        made = self.check_change(ITEMS, [("goes", (0, "a", ()))])
        self.assertNotIn("a", made.relations)
        self.assertEqual(made.facts["a"], State(ITEMS).facts["a"])

    def test_a_relation_without_facts_goes_with_its_list(self):
        made = self.check_change(ITEMS, [("goes", (0, "b", ()))])
        self.assertNotIn("b", made.facts)

    def test_a_relation_comes_to_facts_that_are_there(self):
        made = self.check_change(ITEMS, [("comes", ("relation", "lost", ("x",), 1))])
        self.assertEqual(made.facts["lost"], [(1,)])

    def test_the_last_fact_of_a_relation_goes(self):
        made = self.check_change(ITEMS, [("goes", (1, "same", (MOST,)))])
        self.assertEqual(made.facts["same"], [])

    def test_the_last_fact_without_a_relation_goes(self):
        made = self.check_change(ITEMS, [("goes", (1, "lost", (1,)))])
        self.assertNotIn("lost", made.facts)

    def test_several_changes_stand_one_after_another(self):
        item = ("fact", "b", (1,))
        key = key_of(item)
        self.assertTrue(self.check_change(ITEMS, [("goes", key), ("comes", item)]).has("b", (1,)))
        self.assertFalse(self.check_change(ITEMS, [("comes", item), ("goes", key)]).has("b", (1,)))
        made = self.check_change(ITEMS, [
            ("goes", (0, "b", ())), ("comes", item), ("comes", ("relation", "b", ("q",), 9)),
            ("comes", ("layout", "l", ("s",))), ("comes", ("layout", "l", ())), ("goes", (3, "none", ())),
            ("comes", item), ("goes", (3, "none", ())),
        ])
        self.assertEqual(made.relations["b"], (("q",), 9))
        self.assertEqual(made.facts["b"], [(1,)])
        self.assertEqual(made.layouts, {"same": ("same", "s"), "l": ()})

    def test_all_short_lists_of_changes(self):
        items = [
            ("relation", "r", ("a",), 1), ("relation", "r", ("b",), 2), ("fact", "r", (1,)), ("fact", "r", ("",)),
            ("structure", "r", "r", ("a",), 1, 1), ("layout", "r", ()),
        ]
        changes = [("comes", item) for item in items] + [("goes", key_of(item)) for item in items[1:]]
        for start in ([], items[:1], items[:3]):
            for some in itertools.product(changes, repeat=3):
                self.check_change(start, list(some))

    def test_changes_of_changes(self):
        state = State(ITEMS)
        made = state.change([("comes", ("fact", "b", (1,)))]).change([("comes", ("fact", "b", (0,)))])
        self.assertEqual(made.facts["b"], [(0,), (1,)])
        self.assertEqual(state.facts["b"], [])

    def test_change_shares_nothing(self):
        for changes in ([], [("comes", ("fact", "a", (0, 0)))], [("goes", (0, "nothing", ()))]):
            state = State(ITEMS)
            made = state.change(changes)
            wanted = parts(made)
            modify(state)
            self.assertEqual(parts(made), wanted)
            state = State(ITEMS)
            modify(state.change(changes))
            self.assertEqual(parts(state), parts(State(ITEMS)))

    def test_later_changes_of_the_list_have_no_effect(self):
        changes = [("comes", ITEMS[0])]
        made = State().change(changes)
        changes.append(("comes", ITEMS[1]))
        self.assertEqual(made.all_items(), ITEMS[:1])

    def test_changes_may_be_a_tuple(self):
        made = State().change((("comes", ITEMS[0]), ("comes", ITEMS[4])))
        self.assertEqual(made.all_items(), [ITEMS[0], ITEMS[4]])


class BetweenTest(unittest.TestCase):
    def check_between(self, items, others):
        """The changes between two states, which stay as they were."""
        first = State(items)
        second = State(others)
        told = between(first, second)
        self.assertIs(type(told), list)
        self.assertEqual(parts(first), parts(State(items)))
        self.assertEqual(parts(second), parts(State(others)))
        self.assertEqual(parts(first.change(told)), parts(second))
        goes = [change for change in told if change[0] == "goes"]
        comes = [change for change in told if change[0] == "comes"]
        self.assertEqual(told, goes + comes)
        old = {key_of(item): item for item in first.all_items()}
        new = {key_of(item): item for item in second.all_items()}
        self.assertEqual([key for _, key in goes], sorted(set(old) - set(new), key=key_order))
        self.assertEqual(
            [item for _, item in comes],
            [item for item in second.all_items() if old.get(key_of(item)) != item])
        return told

    def test_no_difference(self):
        self.assertEqual(self.check_between([], []), [])
        self.assertEqual(self.check_between(ITEMS, ITEMS), [])
        self.assertEqual(self.check_between(ITEMS, ITEMS[::-1]), [])
        state = State(ITEMS)
        self.assertEqual(between(state, state), [])

    def test_all_comes(self):
        self.assertEqual(self.check_between([], ITEMS[::-1]), [("comes", item) for item in ITEMS])

    def test_all_goes(self):
        self.assertEqual(self.check_between(ITEMS[::-1], []), [("goes", key_of(item)) for item in ITEMS])

    def test_goes_stand_first(self):
        told = self.check_between(ITEMS[1::2], ITEMS[::2])
        wanted = [("goes", key_of(item)) for item in ITEMS[1::2]] + [("comes", item) for item in ITEMS[::2]]
        self.assertEqual(told, wanted)

    def test_rows_in_their_order(self):
        first = [("fact", "r", row) for row in ((10,), (-5,), ("a",), ("",), (9,), (9, 0))]
        second = [("fact", "r", row) for row in ((10,), ("b",), ("B",), (-10,), (3,), ())]
        self.assertEqual(self.check_between(first, second), [
            ("goes", (1, "r", (-5,))), ("goes", (1, "r", (9,))), ("goes", (1, "r", (9, 0))),
            ("goes", (1, "r", ("",))), ("goes", (1, "r", ("a",))),
            ("comes", ("fact", "r", ())), ("comes", ("fact", "r", (-10,))), ("comes", ("fact", "r", (3,))),
            ("comes", ("fact", "r", ("B",))), ("comes", ("fact", "r", ("b",))),
        ])

    def test_other_contents_come_and_do_not_go(self):
        pairs = [
            (("relation", "r", ("a", "b"), 1), ("relation", "r", ("b", "a"), 1)),
            (("relation", "r", ("a",), 1), ("relation", "r", ("a",), 2)),
            (("structure", "s", "r", ("a",), 1, 1), ("structure", "s", "q", ("a",), 1, 1)),
            (("structure", "s", "r", ("a",), 1, 1), ("structure", "s", "r", ("b",), 1, 1)),
            (("structure", "s", "r", ("a",), 1, 2), ("structure", "s", "r", ("a",), 2, 1)),
            (("layout", "l", ("s", "t")), ("layout", "l", ("t", "s"))),
            (("layout", "l", ("s",)), ("layout", "l", ())),
        ]
        for old, new in pairs:
            with self.subTest(old=old, new=new):
                self.assertEqual(self.check_between([old], [new]), [("comes", new)])

    def test_one_name_for_all_sorts(self):
        first = [("relation", "r", ("a",), 1), ("structure", "r", "r", ("a",), 1, 1)]
        second = [("fact", "r", ("a",)), ("layout", "r", ())]
        self.assertEqual(self.check_between(first, second), [
            ("goes", (0, "r", ())), ("goes", (2, "r", ())),
            ("comes", ("fact", "r", ("a",))), ("comes", ("layout", "r", ())),
        ])

    def test_between_all_pairs_of_small_states(self):
        items = [
            ("relation", "r", ("a",), 1), ("fact", "r", (1,)), ("fact", "q", ("1",)),
            ("structure", "r", "r", ("a",), 1, 1), ("layout", "l", ()),
        ]
        others = [("relation", "r", ("b",), 1), ("fact", "r", (2,)), items[2], items[3], ("layout", "l", ("r",))]
        for many in range(2 ** len(items)):
            for more in range(2 ** len(others)):
                self.check_between(
                    [item for at, item in enumerate(items) if many >> at & 1],
                    [item for at, item in enumerate(others) if more >> at & 1])

    def test_what_is_returned_is_new(self):
        first = State(ITEMS[:8])
        second = State(ITEMS[4:])
        told = between(first, second)
        wanted = list(told)
        told.clear()
        self.assertEqual(between(first, second), wanted)
        self.assertEqual(first.all_items(), ITEMS[:8])
        self.assertEqual(second.all_items(), ITEMS[4:])


if __name__ == "__main__":
    unittest.main()
