"""Tests of the database (points 1, 15, 20 to 28, 30, 34 and 44 to 50)."""

import unittest

import helper
from helper import Pair
from turnshelves.database import Database, Session
from turnshelves.disk import Disk
from turnshelves.errors import DatabaseOpen, DiskFull, ShelfError
from turnshelves.papers import judge

ANY = ("any",)
X, Y = ("variable", "x"), ("variable", "y")


def value(worth):
    return ("value", worth)


def by(column, worth):
    """A question for the rows with a value in one column of three."""
    terms = [ANY, ANY, X]
    terms[column] = value(worth)
    return ("ask", (("fact", "r", tuple(terms)),))


ALL = ("ask", (("fact", "r", (X, ANY, ANY)),))
SCHEMA = [
    ("relation", "r", ("a", "b", "c"), 14),
    ("relation", "q", ("d",), 2),
    ("structure", "sa", "r", ("a",), 4, 5),
    ("structure", "sb", "r", ("b",), 4, 6),
    ("structure", "sq", "q", ("d",), 2, 1),
]
LAYOUTS = [
    ("layout", "plain", ()), ("layout", "one", ("sa",)), ("layout", "two", ("sb",)),
    ("layout", "three", ("sq", "sb", "sa")),
]


def big(number, other=0):
    """A row that has a sector of its own among others of its kind."""
    return ("add", "r", (number, other, "v" * 30))


class Base(unittest.TestCase):
    def pair(self, *statements, size=260):
        pair = Pair(self, size)
        for statement in statements:
            self.assertEqual(pair.run(statement)[0], "answer")
        return pair

    def filled(self, *layouts, rows=9, size=260):
        return self.pair(*SCHEMA, *[big(number, number % 5) for number in range(rows)], *layouts, size=size)


class ExampleTest(unittest.TestCase):
    def test_the_example(self):
        disk = Disk(60)
        session = Database(disk).session()
        self.assertIsInstance(session, Session)
        self.assertIsNone(session.run(("relation", "r", ("a",), 2)))
        self.assertEqual(disk.counts(), (31, 2, 3, 3))
        self.assertIs(session.run(("add", "r", (1,))), True)
        self.assertEqual(disk.read(31)[:6], [1, 1, 0, 0, 1, 0])
        self.assertEqual(session.run(("ask", (("fact", "r", (("variable", "x"),)),))), (("x",), [(1,)]))


class OpenTest(Base):
    def test_a_new_disk(self):
        for size in (60, 61, 400):
            disk = Disk(size)
            database = Database(disk)
            self.assertEqual(database.status(), (0, (), 0, 0, 0))
            self.assertEqual(disk.counts(), (size - (size - 2) // 2, 0, 2, 2))
            self.assertEqual(database.hindsight(), (0, []))
            self.assertEqual(database.paper(), (0, (0,), ((0,),), (), ((0,),), (), 0))
            self.assertEqual(disk.pending(), 0)

    def test_further_openings(self):
        pair = self.filled(*LAYOUTS)
        for _ in range(3):
            pair.open_again()
            self.assertEqual(pair.model.lies, ("sa",))
            self.assertEqual(pair.database.status(), (pair.model.low.commits, ("sa",), 0, 0, 0))
        self.assertEqual(pair.model.low.commits, len(SCHEMA) + 9 + len(LAYOUTS))

    def test_whatever_lies_in_the_region(self):
        pair = self.filled(*LAYOUTS)
        first = pair.disk.size() - (pair.disk.size() - 2) // 2
        for index in range(first, pair.disk.size()):
            pair.disk.write(index, [index % 256] * 64)
        pair.disk.sync()
        pair.disk.events.clear()
        _, writes, _, syncs = pair.disk.counts()
        pair.model.writes, pair.model.low.syncs = writes, syncs
        pair.open_again()
        for number in range(9):
            pair.run(by(0, number))

    def test_without_layouts_and_with_the_empty_one_first(self):
        pair = self.filled()
        pair.open_again()
        self.assertEqual(pair.model.lies, ())
        pair = self.filled(("layout", "z", ("sa",)), ("layout", "b", ()))
        pair.open_again()
        self.assertEqual(pair.model.lies, ())
        pair.run(("layout", "a", ("sq", "sa")))
        pair.open_again()
        self.assertEqual(pair.model.lies, ("sq", "sa"))

    def test_a_second_database(self):
        disk = Disk(60)
        database = Database(disk)
        database.session().run(("relation", "r", ("a",), 2))
        kept = (disk.counts(), database.status())
        for _ in range(2):
            with self.assertRaises(DatabaseOpen) as caught:
                Database(disk)
            self.assertIsInstance(caught.exception, ShelfError)
            self.assertEqual((disk.counts(), database.status()), kept)
        # Another disk has nothing to do with it.
        self.assertEqual(Database(Disk(60)).status(), (0, (), 0, 0, 0))
        database.session().run(("add", "r", (1,)))

    def test_a_database_that_nobody_has_is_open(self):
        disk = Disk(60)
        Database(disk)
        with self.assertRaises(DatabaseOpen):
            Database(disk)


class RequestTest(Base):
    def test_without_layouts(self):
        pair = self.filled()
        for statement in [ALL, by(0, 3), ("show",), ("remove", "r", (3, 3, "v" * 30)), ("remove", "r", (77, 0, "")),
                          ("add", "q", (4,)), ("add", "q", (4,)), by(1, 0)]:
            pair.run(statement)
        self.assertEqual((pair.model.lies, pair.model.tasks, pair.model.spent), ((), 0, 0))
        self.assertGreater(pair.model.base, 20)
        pair.check_paper()

    def test_one_layout_alone(self):
        pair = self.filled(("layout", "l", ("sb", "sa")))
        # The layout that lay is not offered any more, so the only one lies.
        self.assertEqual(pair.model.lies, ("sb", "sa"))
        for number in range(5):
            pair.run(by(0, number))
            pair.run(by(1, number))
            pair.run(ALL)
            pair.run(big(number + 20, number))
        self.assertEqual((pair.model.tasks, pair.model.spent), (0, 0))
        pair.check_paper()

    def test_several_layouts(self):
        pair = self.filled(*LAYOUTS)
        seen = set()
        for number in range(240):
            column = number // 60 % 2
            pair.run(by(column, number % 9 if column == 0 else number % 5))
            seen.add(pair.model.lies)
            if number % 40 == 0:
                pair.check_paper()
        self.assertGreater(len(seen), 1)
        self.assertGreater(pair.model.tasks, 100)
        pair.check_paper()

    def test_a_move_in_the_order_of_the_layout(self):
        # To go from ("sa",) to ("sq", "sb", "sa") lays "sq" first, then "sb".
        pair = self.filled(("layout", "a", ("sa",)), ("layout", "b", ("sq", "sb", "sa")))
        moves = 0
        for number in range(60):
            before = pair.model.lies
            pair.run(by(1, number % 5))
            moves += before != pair.model.lies
        self.assertEqual((moves, pair.model.lies), (1, ("sq", "sb", "sa")))
        for _ in range(60):
            pair.run(big(0, 0))
            pair.run(("remove", "r", (0, 0, "v" * 30)))
        self.assertEqual(pair.model.lies, ("sa",))
        pair.check_paper()

    def test_equal_costs_are_no_task(self):
        pair = self.filled(*LAYOUTS)
        for statement in [ALL, ("show",), ("ask", ()), ("ask", (("fact", "q", (X,)),)), by(2, "v" * 30),
                          ("remove", "q", (8,)), ("ask", (("compare", "=", value(1), value(2)), by(0, 1)[1][0]))]:
            status = pair.database.status()
            pair.run(statement)
            self.assertEqual(pair.database.status()[1:3], status[1:3])
            self.assertEqual(pair.database.status()[4], status[4])
        self.assertEqual(pair.model.tasks, 0)
        self.assertEqual(pair.database.hindsight(), (0, []))

    def test_a_task_though_it_stays(self):
        pair = self.filled(*LAYOUTS)
        self.assertEqual(pair.model.lies, ())
        pair.run(by(0, 3))
        self.assertEqual(pair.database.status()[1:3], ((), 1))
        self.assertGreater(pair.database.status()[4], 0)

    def test_writes_are_costs(self):
        # A fact that comes is dear where many structures lie.
        pair = self.filled(("layout", "a", ("sa", "sb")), ("layout", "b", ()), rows=0)
        for number in range(60):
            pair.run(big(20, number % 3))
            pair.run(("remove", "r", (20, number % 3, "v" * 30)))
        self.assertEqual(pair.model.lies, ())
        pair.check_paper()

    def test_refused_statements_cost_nothing(self):
        pair = self.filled(*LAYOUTS)
        kept = (pair.database.status(), pair.disk.counts())
        for statement in [("drop", "r"), ("add", "p", (1,)), ("add", "r", (1,)), ("take", "sa"), ("leave", "none"),
                          ("ask", (("fact", "r", (X, ANY, ANY)), ("fact", "p", ()))), ("relation", "n", ("a",), 41),
                          ("add", "r", ("k" * 30, "k" * 30, "k" * 30))]:
            self.assertEqual(pair.run(statement)[0], "problem")
            self.assertEqual((pair.database.status(), pair.disk.counts()), kept)

    def test_facts_and_relations_that_are_full(self):
        pair = self.pair(("relation", "r", ("a", "b", "c"), 2), ("structure", "s", "r", ("a",), 2, 1),
            ("layout", "l", ("s",)))
        self.assertEqual(pair.run(big(1)), ("answer", True))
        self.assertEqual(pair.run(big(3)), ("problem", ("full", "structure", "s")))
        self.assertEqual(pair.run(big(2)), ("answer", True))
        self.assertEqual(pair.run(big(4)), ("problem", ("full", "relation", "r")))
        self.assertEqual(pair.run(big(1)), ("answer", False))

    def test_joins(self):
        pair = self.filled(*LAYOUTS)
        for number in (2, 4, 7):
            pair.run(("add", "q", (number,)))
        join = ("ask", (("fact", "q", (X,)), ("fact", "r", (X, Y, ANY)), ("not", "q", (Y,))))
        total = ("ask", (("count", "n", "r", (ANY, value(2), ANY)), ("least", "x", Y, "r", (value(3), Y, ANY))))
        for _ in range(15):
            pair.run(join)
            pair.run(total)
        pair.check_paper()

    def test_sessions_without_transactions(self):
        pair = self.filled(*LAYOUTS)
        for number in range(30):
            pair.run(by(0, number % 9), "one")
            pair.run(big(20 + number % 4, 1), "two")
            pair.run(("remove", "r", (20 + number % 3, 1, "v" * 30)), "three")


class SchemaTest(Base):
    def test_the_layout_that_lay_stays_if_it_is_offered(self):
        pair = self.filled(*LAYOUTS)
        self.bring_to(pair, 0, ("sa",))
        for statement in [("relation", "p", ("a",), 3), ("structure", "k", "q", ("d",), 1, 1), ("layout", "a", ("k",)),
                          ("leave", "two"), ("leave", "plain")]:
            pair.run(statement)
            self.assertEqual(pair.database.status()[1:], (("sa",), 0, 0, 0))
        # The same layout under another name, and then a layout with other names in its tuple.
        pair.do("s", "begin")
        pair.run(("leave", "one"))
        pair.run(("layout", "zz", ("sa",)))
        pair.do("s", "commit")
        self.assertEqual(pair.database.status()[1:], (("sa",), 0, 0, 0))
        pair.run(("leave", "zz"))
        self.assertEqual(pair.database.status()[1:], (("k",), 0, 0, 0))
        pair.run(("leave", "a"))
        pair.run(("leave", "three"))
        self.assertEqual(pair.database.status()[1:], ((), 0, 0, 0))

    def bring_to(self, pair, column, layout):
        for number in range(100):
            if pair.model.lies == layout:
                return
            pair.run(by(column, number % 5))
        self.fail("it does not move")

    def test_the_same_structures_in_another_order(self):
        pair = self.filled(("layout", "l", ("sa", "sb")))
        pair.do("s", "begin")
        pair.run(("leave", "l"))
        pair.run(("layout", "l", ("sb", "sa")))
        pair.run(("layout", "a", ()))
        pair.do("s", "commit")
        self.assertEqual(pair.model.lies, ())

    def test_a_structure_that_is_another_one(self):
        pair = self.filled(("layout", "l", ("sa",)))
        pair.do("s", "begin")
        for statement in [("leave", "l"), ("take", "sa"), ("structure", "sa", "r", ("b",), 2, 8),
                ("layout", "l", ("sa",))]:
            pair.run(statement)
        pair.do("s", "commit")
        self.assertEqual(pair.model.lies, ("sa",))
        pair.run(by(1, 2))
        pair.run(by(0, 2))

    def test_places_move(self):
        pair = self.filled(*LAYOUTS)
        for statement in [("relation", "b", ("a",), 1), ("add", "b", (4,)), ("structure", "aa", "b", ("a",), 3, 1),
                          ("layout", "c", ("aa", "sa")), ("drop", "q"), ("leave", "three"), ("take", "sq"),
                          ("drop", "q"),
                          ("relation", "z", ("e",), 2), ("add", "z", (4,))]:
            pair.run(statement)
        pair.open_again()

    def test_a_statement_that_changes_the_schema_reads_the_rooms(self):
        pair = self.filled()
        reads, writes, logs, syncs = pair.disk.counts()
        pair.run(("relation", "z", ("a",), 3))
        # The rooms of 14, 2, 20, 24 and 2 sectors are read, those of 14, 2 and 3 written.
        self.assertEqual(pair.disk.counts(), (reads + 62, writes + 19, logs + 1, syncs + 1))
        self.assertEqual(pair.database.status()[2:], (0, 0, 0))

    def test_a_transaction_that_changes_the_schema_reads_for_its_calls(self):
        pair = self.filled(*LAYOUTS)
        pair.do("s", "begin")
        for statement in [ALL, by(0, 3), big(33, 1), ("relation", "z", ("a",), 3), ("add", "z", (1,))]:
            pair.run(statement)
        self.assertGreater(pair.model.tasks, 0)
        reads, writes, _, _ = pair.disk.counts()
        pair.do("s", "commit")
        # Nine sectors for the calls, which are read once, and the rooms.
        self.assertEqual(pair.disk.counts()[:2], (reads + 9 + 62, writes + 19))
        self.assertEqual(pair.database.status()[2:], (0, 0, 0))

    def test_rows_alone_begin_no_phase(self):
        pair = self.filled(*LAYOUTS)
        pair.run(ALL)
        base = pair.database.status()[3]
        pair.run(big(33))
        self.assertGreater(pair.database.status()[3], base)
        pair.do("s", "begin")
        pair.run(("relation", "z", ("a",), 3))
        pair.run(("drop", "z"))
        pair.run(big(34))
        pair.do("s", "commit")
        self.assertGreater(pair.database.status()[3], base)

    def test_a_relation_that_is_dropped_and_comes_back(self):
        pair = self.pair(SCHEMA[0], SCHEMA[1], ("add", "q", (4,)), big(5))
        phase = pair.database.status()[2:]
        pair.do("s", "begin")
        for statement in [("drop", "r"), SCHEMA[0], big(6)]:
            pair.run(statement)
        pair.do("s", "commit")
        # Rows alone have changed, so this was no new phase.
        self.assertGreater(pair.database.status()[3], phase[1])

    def test_a_layout_alone(self):
        pair = self.filled()
        for layout in LAYOUTS:
            pair.run(layout)
            self.assertEqual(pair.database.status()[2:], (0, 0, 0))
        for _, name, _ in LAYOUTS:
            pair.run(("leave", name))
            self.assertEqual(pair.database.status()[2:], (0, 0, 0))
        self.assertEqual(pair.model.lies, ())


class FullTest(Base):
    def fill(self, pair):
        """Fill the store with rows until one more cannot be stored."""
        number = 0
        while pair.run(("add", "w", (number, "t" * 30)))[0] == "answer":
            number += 1
        return number

    def test_outside_of_a_transaction(self):
        pair = self.pair(("relation", "w", ("a", "b"), 25), size=60)
        number = self.fill(pair)
        self.assertGreater(number, 5)
        statement = ("add", "w", (number, "t" * 30))
        for _ in range(3):
            before = (pair.database.status(), pair.disk.counts())
            with self.assertRaises(DiskFull) as caught:
                pair.session("s").run(statement)
            self.assertIsInstance(caught.exception, ShelfError)
            pair.model.run("s", statement)
            pair.check()
            # The sectors of its calls were read, and nothing was written.
            self.assertGreater(pair.disk.counts()[0], before[1][0])
            self.assertEqual(pair.disk.counts()[1:], before[1][1:])
            self.assertEqual(pair.database.status()[0], before[0][0])
        self.assertEqual(pair.run(("ask", (("count", "n", "w", (ANY, ANY)),))), ("answer", (("n",), [(number,)])))
        self.assertEqual(pair.run(("remove", "w", (0, "t" * 30))), ("answer", True))
        self.assertEqual(pair.run(statement), ("answer", True))

    def test_a_schema_that_has_no_room(self):
        pair = self.filled(*LAYOUTS, size=140)
        before = pair.disk.counts()
        self.assertEqual(pair.run(("relation", "z", ("a",), 40)), ("full",))
        self.assertEqual(pair.run(("structure", "z", "r", ("a",), 16, 8)), ("full",))
        self.assertEqual(pair.disk.counts(), before)
        # 62 of 69 sectors are taken.
        self.assertEqual(pair.run(("relation", "z", ("a",), 8)), ("full",))
        self.assertEqual(pair.run(("relation", "z", ("a",), 7)), ("answer", None))
        self.assertEqual(pair.run(("structure", "y", "q", ("d",), 1, 1)), ("full",))

    def test_within_a_transaction(self):
        pair = self.filled(*LAYOUTS, size=140)
        for number in range(12):
            pair.do("s", "begin")
            pair.run(by(0, number % 9))
            self.assertEqual(pair.run(("relation", "z", ("a",), 8)), ("answer", None))
            pair.run(("add", "z", (1,)))
            pair.run(("add", "r", (number, 5, "")))
            state = pair.model.state()
            status = pair.database.status()
            self.assertEqual(pair.do("s", "commit"), ("full",))
            self.assertIs(pair.model.state(), state)
            self.assertEqual(pair.database.status()[0], status[0])
            # The transaction has ended.
            self.assertEqual(pair.do("s", "rollback"), ("none",))
            self.assertEqual(pair.run(("add", "z", (1,))), ("problem", ("no relation", "z")))
        self.assertGreater(pair.model.tasks, 10)

    def test_it_may_move(self):
        pair = self.filled(("layout", "a", ()), ("layout", "b", ("sa",)), size=140)
        moved = False
        for number in range(40):
            before = (pair.model.lies, pair.disk.counts())
            pair.do("s", "begin")
            pair.do("s", "savepoint", "m")
            for statement in [("relation", "z", ("a",), 8), ("add", "r", (number, 5, ""))]:
                pair.run(statement)
            self.assertEqual(pair.do("s", "commit"), ("full",))
            if pair.model.lies != before[0]:
                moved = True
                self.assertEqual(pair.disk.counts()[2:], before[1][2:])
        self.assertTrue(moved)
        pair.check_paper()

    def test_a_refused_commit_may_move(self):
        pair = self.filled(("layout", "a", ()), ("layout", "b", ("sa",)))
        moved = False
        for number in range(40):
            pair.do("one", "begin")
            self.assertEqual(pair.run(("add", "q", (7,)), "one"), ("answer", True))
            pair.run(("add", "r", (number, 5, "")), "one")
            pair.run(("add", "q", (7,)), "two")
            before = (pair.model.lies, pair.disk.counts(), pair.model.state())
            told = pair.do("one", "commit")
            self.assertEqual(told, ("answer", (0, ("answer", False))))
            if pair.model.lies != before[0]:
                moved = True
            self.assertEqual(pair.disk.counts()[2:], before[1][2:])
            pair.run(("remove", "q", (7,)), "two")
        self.assertTrue(moved)


class PhaseTest(Base):
    def small(self):
        """A database on which each question for 0 is a task of the same excesses."""
        return self.pair(
            ("relation", "r", ("a", "b", "c"), 3), ("structure", "s", "r", ("a",), 2, 2), big(0), big(1),
            ("layout", "l", ("s",)), ("layout", "m", ()), size=60,
        )

    def test_the_1000th_task(self):
        disk = Disk(60)
        database = Database(disk)
        session = database.session()
        for statement in [("relation", "r", ("a", "b", "c"), 3), ("structure", "s", "r", ("a",), 2, 2), big(0), big(1),
                          ("layout", "l", ("s",)), ("layout", "m", ())]:
            session.run(statement)
        for number in range(1000):
            self.assertEqual(database.status()[2], number)
            session.run(by(0, 0))
        self.assertEqual(database.status()[1:3], (("s",), 1000))
        base = database.status()[3]
        self.assertEqual(base, 1000)
        self.assertEqual(judge(database.paper()), database.hindsight()[0])
        self.assertEqual(len(database.hindsight()[1]), 1000)
        # What is no statement and no commit begins no phase.
        with self.assertRaises(ShelfError):
            session.commit()
        session.begin()
        session.savepoint("a")
        session.rollback_to("a")
        session.rollback()
        database.session()
        self.assertEqual(database.status()[1:4], (("s",), 1000, 1000))
        before = sum(disk.counts()[:2])
        session.run(by(0, 0))
        self.assertEqual(database.status()[1:], (("s",), 1, 1, 0))
        self.assertEqual(sum(disk.counts()[:2]), before + 1)

    def to_the_end(self, pair):
        """Run tasks up to the 1000th; the model and the database go on without being compared."""
        while pair.model.tasks < 1000:
            pair.model.run("s", by(0, 0))
            pair.session("s").run(by(0, 0))
        pair.check()
        self.assertEqual(pair.database.status()[2], 1000)

    def test_whatever_comes_of_the_next_statement(self):
        for statement, kept in [
            (("drop", "r"), 0), (ALL, 2), (("add", "p", (1,)), 0), (("show",), 0), (big(5), 1), (("leave", "m"), 0),
            (("relation", "z", ("a",), 40), 0),
        ]:
            pair = self.small()
            self.to_the_end(pair)
            pair.run(statement)
            self.assertLess(pair.database.status()[2], 2)
            self.assertGreaterEqual(pair.database.status()[3], kept)
            pair.run(by(0, 0))
            self.assertLess(pair.database.status()[2], 3)

    def test_a_commit_after_the_1000th_task(self):
        for statement in [None, ALL, big(5), ("leave", "m"), ("relation", "z", ("a",), 40)]:
            pair = self.small()
            pair.do("t", "begin")
            if statement is not None:
                pair.run(statement, "t")
            self.to_the_end(pair)
            pair.do("t", "savepoint", "x")
            self.assertEqual(pair.database.status()[2], 1000)
            pair.do("t", "commit")
            self.assertLess(pair.database.status()[2], 2)

    def test_a_statement_of_a_transaction_after_the_1000th_task(self):
        pair = self.small()
        pair.do("t", "begin")
        self.to_the_end(pair)
        pair.run(("add", "p", (1,)), "t")
        self.assertEqual(pair.database.status()[2:], (0, 0, 0))
        pair.run(by(0, 0), "t")
        self.assertEqual(pair.database.status()[2], 1)

    def test_requests_that_are_no_tasks_do_not_count(self):
        pair = self.small()
        for _ in range(5):
            pair.run(("show",))
        self.to_the_end(pair)

    def test_the_paper_and_the_hindsight(self):
        pair = self.filled(*LAYOUTS)
        pair.check_paper()
        for number in range(80):
            pair.run(by(number // 30 % 2, number % 5))
            pair.check_paper()
        amount, plan = pair.database.hindsight()
        self.assertIs(type(plan), list)
        self.assertGreater(amount, 0)
        self.assertEqual({type(layout) for layout in plan}, {tuple})
        plan.clear()
        self.assertEqual(len(pair.database.hindsight()[1]), pair.model.tasks)

    def test_status(self):
        pair = self.filled(*LAYOUTS)
        told = pair.database.status()
        self.assertIs(type(told), tuple)
        self.assertIs(type(told[1]), tuple)
        for _ in range(3):
            self.assertEqual(pair.database.status(), told)
            pair.database.hindsight()
            pair.database.paper()
        pair.check()


class SharingTest(Base):
    def test_answers_that_were_returned(self):
        pair = self.filled(*LAYOUTS)
        for statement in (ALL, ("show",)):
            told = pair.session("s").run(statement)
            (told[1] if statement == ALL else told).clear()
            pair.model.run("s", statement)
            pair.run(statement)
        pair.do("s", "begin")
        told = pair.session("s").run(ALL)
        told[1].clear()
        pair.model.run("s", ALL)
        pair.run(ALL)
        self.assertEqual(pair.do("s", "commit"), ("answer", None))

    def test_what_a_refused_commit_tells(self):
        pair = self.filled(*LAYOUTS)
        pair.do("s", "begin")
        pair.run(("show",))
        pair.run(("relation", "z", ("a",), 1), "t")
        index, told = pair.session("s").commit()
        self.assertEqual((index, told[0]), (0, "answer"))
        told[1].clear()
        pair.model.commit("s")
        pair.run(("show",))


class DrawnTest(Base):
    def test_drawn_statements(self):
        draw = helper.drawing(9)
        moves = tasks = full = 0
        for size in (100, 110, 130, 160, 260, 330):
            pair = Pair(self, size)
            for _ in range(200):
                lies = pair.model.lies
                told = self.drawn_statement(draw, pair.model.state())
                result = pair.run(told, draw.choice("ab"))
                moves += pair.model.lies != lies
                full += result == ("full",)
                tasks += pair.model.tasks > 0
                if draw.randrange(40) == 0:
                    pair.open_again([draw.randrange(2) == 1 for _ in range(pair.disk.pending())])
            pair.check_paper()
        self.assertGreater(min(moves, full, tasks), 1, (moves, full, tasks))

    def drawn_statement(self, draw, state):
        names = ["r", "q"]
        sort = draw.randrange(30)
        name = draw.choice(names)
        if name not in state.relations or sort == 0:
            return ("relation", name, ("a", "b", "c"), draw.randrange(6, 20))
        if sort == 1:
            return ("drop", name)
        if sort < 5:
            columns = draw.choice([("a",), ("b",), ("b", "a")])
            return ("structure", draw.choice("ijkl"), name, columns, draw.randrange(1, 5), draw.randrange(2, 7))
        if sort == 5:
            return draw.choice([("take", draw.choice("ijkl")), ("leave", draw.choice("uvw"))])
        if sort < 10:
            structures = sorted(state.structures)
            return ("layout", draw.choice("uvwx"), tuple(draw.sample(structures, draw.randrange(len(structures) + 1))))
        row = (draw.randrange(6), draw.randrange(3), "v" * draw.choice([0, 20, 30]))
        if sort < 18:
            return ("add", name, row)
        if sort < 20 and state.facts[name]:
            return ("remove", name, draw.choice(state.facts[name]))
        terms = [value(worth) if draw.randrange(2) else ANY for worth in row[:2]] + [X]
        return ("ask", (("fact", name, tuple(terms)),))


if __name__ == "__main__":
    unittest.main()
