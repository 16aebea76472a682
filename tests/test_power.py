"""Tests of power that fails (points 35, 36, 43, 51 and 52) and of databases that are closed by it."""

import copy
import itertools
import unittest

import helper
from helper import Pair, Recorder, merged
from turnshelves.blocks import found
from turnshelves.database import Database
from turnshelves.disk import Disk
from turnshelves.errors import DatabaseClosed, DatabaseOpen, DiskFull, PowerOff, ShelfError

ANY = ("any",)
X = ("variable", "x")
SCHEMA = [
    ("relation", "r", ("a", "b"), 5), ("structure", "s", "r", ("a",), 2, 3), ("structure", "t", "r", ("b",), 1, 5),
    ("layout", "k", ()), ("layout", "l", ("s", "t")),
]


def add(number, text="x" * 30):
    return ("add", "r", (number, text))


def ask(number):
    return ("ask", (("fact", "r", (("value", number), X)),))


def subsets(many):
    """Some lists of which of the waiting writes arrive; all, if there are few."""
    if many <= 3:
        return [list(kept) for kept in itertools.product([False, True], repeat=many)]
    ends = [[at < end for at in range(many)] for end in (0, 1, many // 2, many - 1, many)]
    return ends + [[at >= many - 1 for at in range(many)], [at % 2 == 0 for at in range(many)],
                   [at % 2 == 1 for at in range(many)]]


def told(disk):
    """What is found on a disk, as something that can be compared."""
    result = found(disk)
    return None if result is None else (result[3], tuple(result[4].all_items()))


def state_of(database):
    return (database.store.commits, tuple(database.store.state.all_items()))


class Base(unittest.TestCase):
    def database(self, *statements, size=80):
        disk = Recorder(size)
        database = Database(disk)
        session = database.session()
        for statement in statements:
            session.run(statement)
        return disk, database

    def check_closed(self, database, *sessions):
        """All methods raise DatabaseClosed, whatever else is wrong, and nothing changes."""
        disk = database.disk
        before = (disk.counts(), disk.pending(), disk.losses(), told(disk))
        for session in sessions:
            for action in [
                lambda: session.run(("show",)), lambda: session.run(("drop", "none")), lambda: session.run(add(99)),
                session.begin, session.commit, session.rollback, lambda: session.savepoint("m"),
                lambda: session.rollback_to("none"),
            ]:
                with self.assertRaises(DatabaseClosed) as caught:
                    action()
                self.assertIsInstance(caught.exception, ShelfError)
        for action in (database.session, database.status, database.hindsight, database.paper):
            with self.assertRaises(DatabaseClosed):
                action()
        self.assertEqual((disk.counts(), disk.pending(), disk.losses(), told(disk)), before)


class ClosedTest(Base):
    def sessions(self, database):
        """A session without a transaction and one with it."""
        first, second = database.session(), database.session()
        second.begin()
        second.run(ask(1))
        second.savepoint("m")
        return first, second

    def test_power_that_fails_in_a_method(self):
        disk, database = self.database(*SCHEMA)
        sessions = self.sessions(database)
        disk.fail_after(0)
        with self.assertRaises(PowerOff) as caught:
            sessions[0].run(add(1))
        self.assertIsInstance(caught.exception, ShelfError)
        self.check_closed(database, *sessions)
        disk.power([])
        self.check_closed(database, *sessions)
        other = Database(disk)
        self.check_closed(database, *sessions)
        other.session().run(add(1))
        self.check_closed(database, *sessions)
        self.assertEqual(other.status()[0], len(SCHEMA) + 1)

    def test_power_that_fails_outside_of_its_methods(self):
        disk, database = self.database(*SCHEMA)
        sessions = self.sessions(database)
        disk.power([])
        self.check_closed(database, *sessions)
        disk, database = self.database(*SCHEMA)
        sessions = self.sessions(database)
        disk.fail_after(0)
        self.assertEqual(database.status()[0], len(SCHEMA))
        with self.assertRaises(PowerOff):
            disk.sync()
        self.check_closed(database, *sessions)
        disk.power([True] * 99)
        self.check_closed(database, *sessions)

    def test_a_failure_that_is_set_closes_nothing(self):
        disk, database = self.database(*SCHEMA)
        sessions = self.sessions(database)
        disk.fail_after(0)
        # These make no operation.
        self.assertEqual(sessions[0].run(ask(5)), (("x",), []))
        self.assertIs(sessions[0].run(("remove", "r", (5, ""))), False)
        sessions[1].rollback_to("m")
        self.assertIsNone(sessions[1].commit())
        self.assertTrue(disk.is_on())
        with self.assertRaises(PowerOff):
            sessions[1].run(add(1))
        self.check_closed(database, *sessions)

    def test_many_losses(self):
        disk, first = self.database(*SCHEMA)
        closed = [first]
        for number in range(4):
            disk.power([])
            for database in closed:
                self.check_closed(database)
            database = Database(disk)
            self.assertEqual(database.status()[0], len(SCHEMA) + number)
            database.session().run(add(number))
            closed.append(database)

    def test_a_closed_database_of_a_new_one(self):
        disk, first = self.database(*SCHEMA)
        disk.power([])
        second = Database(disk)
        session = second.session()
        self.check_closed(first)
        with self.assertRaises(DatabaseOpen):
            Database(disk)
        session.run(add(1))
        self.assertEqual(second.status()[0], len(SCHEMA) + 1)


class OpeningTest(Base):
    def test_power_is_off(self):
        disk = Disk(60)
        disk.fail_after(0)
        with self.assertRaises(PowerOff):
            disk.sync()
        for _ in range(2):
            with self.assertRaises(PowerOff) as caught:
                Database(disk)
            self.assertIsInstance(caught.exception, ShelfError)
            self.assertEqual((disk.counts(), disk.pending(), disk.losses()), ((0, 0, 0, 0), 0, 1))
        disk.power([])
        self.assertEqual(Database(disk).status()[0], 0)

    def test_power_is_off_though_a_database_was_open(self):
        disk, database = self.database(*SCHEMA)
        disk.fail_after(0)
        with self.assertRaises(PowerOff):
            database.session().run(add(1))
        counts = disk.counts()
        with self.assertRaises(PowerOff):
            Database(disk)
        self.assertEqual(disk.counts(), counts)

    def test_a_second_database_is_refused_before_anything_is_done(self):
        disk, database = self.database(*SCHEMA)
        disk.fail_after(0)
        counts = disk.counts()
        with self.assertRaises(DatabaseOpen):
            Database(disk)
        self.assertEqual((disk.counts(), disk.is_on()), (counts, True))
        self.assertEqual(database.status()[0], len(SCHEMA))

    def openings(self, disk):
        """The number of operations, and the disk behind power that fails at each of them and each subset."""
        whole = copy.deepcopy(disk)
        whole.events = []
        Database(whole)
        wanted = [event for event in whole.events if event[0] != "read"]
        for operations in range(len(wanted)):
            other = copy.deepcopy(disk)
            other.events = []
            other.fail_after(operations)
            with self.assertRaises(PowerOff):
                Database(other)
            made = [event for event in other.events if event[0] != "read"]
            self.assertEqual(made, wanted[:operations])
            self.assertEqual(other.losses(), disk.losses() + 1)
            for kept in subsets(other.pending()):
                lost = copy.deepcopy(other)
                lost.power(kept)
                yield operations, lost

    def test_the_first_opening(self):
        for _, disk in self.openings(Recorder(60)):
            database = Database(disk)
            self.assertEqual(database.status(), (0, (), 0, 0, 0))
            database.session().run(SCHEMA[0])

    def test_further_openings(self):
        disk, database = self.database(*SCHEMA, add(1), add(2))
        wanted = state_of(database)
        disk.power([True] * (disk.pending() // 2))
        many = 0
        for operations, lost in self.openings(disk):
            self.assertEqual(told(lost), wanted)
            if operations < 6:
                for _, again in list(self.openings(lost))[::7]:
                    self.assertEqual(told(again), wanted)
                    self.assertEqual(state_of(Database(again)), wanted)
                    many += 1
            database = Database(lost)
            self.assertEqual(state_of(database), wanted)
            self.check_region(database)
            self.assertEqual(database.session().run(ask(1)), (("x",), [("x" * 30,)]))
            self.assertIs(database.session().run(add(3)), True)
        self.assertGreater(many, 50)

    def check_region(self, database):
        """In the region lies what point 44 tells."""
        disk, state = database.disk, database.store.state
        first = disk.size() - (disk.size() - 2) // 2
        for name, start in helper.places(state).items():
            if name[0] == "relation" or name[1] in database.status()[1]:
                for at, sector in enumerate(helper.shape_by_name(state, name)):
                    self.assertEqual(disk.read(first + start + at), sector)


class CommitTest(Base):
    def cut(self, database, act):
        """Let power fail at each operation of an act; what is found is the state before or after it."""
        before = state_of(database)
        whole = copy.deepcopy(database)
        whole.disk.events = []
        act(whole)
        after = state_of(whole)
        wanted = merged(whole.disk.events)
        operations = len([event for event in wanted if event[0] != "read"])
        seen = set()
        for number in range(operations):
            other = copy.deepcopy(database)
            other.disk.events = []
            other.disk.fail_after(number)
            with self.assertRaises(PowerOff):
                act(other)
            self.check_prefix(merged(other.disk.events), wanted, number)
            self.check_closed(other)
            self.assertFalse(other.disk.is_on())
            for kept in subsets(other.disk.pending()):
                lost = copy.deepcopy(other.disk)
                lost.power(kept)
                self.assertIn(told(lost), (before, after))
                seen.add(told(lost))
                again = Database(lost)
                self.assertEqual(state_of(again), told(lost))
                again.session().run(("relation", "new", ("a",), 1))
        return seen, before, after

    def check_prefix(self, made, wanted, number):
        """What was done is what is done whole, up to the operation that is not made."""
        left = number
        for at, event in enumerate(wanted):
            if event[0] != "read":
                if left == 0:
                    self.assertEqual(made, wanted[:at])
                    return
                left -= 1
        self.fail("there is no such operation")

    def test_a_statement(self):
        _, database = self.database(*SCHEMA, add(1))
        seen, before, after = self.cut(database, lambda other: other.session().run(add(2)))
        self.assertEqual(seen, {before, after})
        self.assertEqual(after[0], before[0] + 1)

    def test_a_statement_that_changes_the_schema(self):
        _, database = self.database(*SCHEMA, add(1), add(2))
        for statement in [("relation", "q", ("a",), 2), ("leave", "k"), ("structure", "u", "r", ("a",), 1, 4)]:
            seen, before, after = self.cut(database, lambda other: other.session().run(statement))
            self.assertEqual(seen, {before, after})

    def test_a_transaction(self):
        _, database = self.database(*SCHEMA, add(1))

        def act(other):
            session = other.session()
            session.begin()
            session.run(add(2))
            session.savepoint("m")
            session.run(add(3))
            session.run(add(4))
            session.rollback_to("m")
            session.run(("remove", "r", (1, "x" * 30)))
            session.commit()

        seen, before, after = self.cut(database, act)
        self.assertEqual(seen, {before, after})
        self.assertEqual(after[0], before[0] + 1)

    def test_a_transaction_with_a_new_image(self):
        _, database = self.database(*SCHEMA, size=60)
        turn = found(database.disk)[1]
        session = database.session()
        number = 0
        while True:
            ahead = copy.deepcopy(database)
            ahead.session().run(add(number, ""))
            if found(ahead.disk)[1] > turn:
                break
            session.run(add(number, ""))
            session.run(("remove", "r", (number, "")))
            number += 1
        seen, before, after = self.cut(database, lambda other: other.session().run(add(number, "")))
        self.assertEqual(seen, {before, after})

    def moving(self):
        """A database, and an act after which the next question moves."""
        _, database = self.database(*SCHEMA, *[add(number) for number in range(5)])
        session = database.session()
        while True:
            ahead = copy.deepcopy(database)
            ahead.session().run(ask(1))
            if ahead.status()[1] != database.status()[1]:
                return database
            session.run(ask(1))

    def test_a_question_that_moves(self):
        database = self.moving()
        seen, before, after = self.cut(database, lambda other: other.session().run(ask(1)))
        self.assertEqual((seen, before), ({after}, after))

        def act(other):
            session = other.session()
            session.begin()
            session.run(ask(1))

        seen, before, after = self.cut(database, act)
        self.assertEqual((seen, before), ({after}, after))

    def test_a_refused_commit_that_moves(self):
        database = self.moving()

        def act(other):
            first, second = other.session(), other.session()
            first.begin()
            first.run(("relation", "z", ("a",), 1))
            first.run(("add", "z", (1,)))
            first.run(("drop", "z"))
            first.run(("remove", "r", (77, "")))
            second.run(ask(1))
            first.commit()

        seen, before, after = self.cut(database, act)
        self.assertEqual((seen, before), ({after}, after))

    def test_a_commit_that_has_no_room_and_moves(self):
        # Power fails in the move, and then it is not told that the disk is full.
        _, database = self.database(*SCHEMA, *[add(number) for number in range(5)])
        first, second = database.session(), database.session()
        first.begin()
        first.run(("relation", "z", ("a",), 40))
        first.run(ask(1))
        while True:
            ahead, session = copy.deepcopy((database, first))
            ahead.disk.events = []
            with self.assertRaises(DiskFull):
                session.commit()
            if ahead.status()[1] != database.status()[1]:
                break
            second.run(ask(1))
        wanted = merged(ahead.disk.events)
        writes = [event for event in wanted if event[0] != "read"]
        # The rooms of the two structures are written, and nothing else.
        self.assertEqual(len(writes), 6 + 5)
        for number in range(11):
            other, session = copy.deepcopy((database, first))
            other.disk.events = []
            other.disk.fail_after(number)
            with self.assertRaises(PowerOff):
                session.commit()
            self.check_prefix(merged(other.disk.events), wanted, number)
            self.check_closed(other, session)
            other.disk.power([True] * number)
            self.assertEqual(told(other.disk), state_of(database))

    def test_power_that_fails_again_within_the_opening(self):
        _, database = self.database(*SCHEMA, add(1))
        before = state_of(database)
        whole = copy.deepcopy(database)
        whole.session().run(add(2))
        after = state_of(whole)
        many = 0
        for number in range(3):
            other = copy.deepcopy(database)
            other.disk.fail_after(number)
            with self.assertRaises(PowerOff):
                other.session().run(add(2))
            for kept in subsets(other.disk.pending()):
                first = copy.deepcopy(other.disk)
                first.power(kept)
                wanted = told(first)
                self.assertIn(wanted, (before, after))
                for cut in range(8):
                    second = copy.deepcopy(first)
                    second.fail_after(cut)
                    with self.assertRaises(PowerOff):
                        Database(second)
                    for again in subsets(second.pending()):
                        third = copy.deepcopy(second)
                        third.power(again)
                        self.assertEqual(told(third), wanted)
                        self.assertEqual(state_of(Database(third)), wanted)
                        many += 1
        self.assertGreater(many, 100)


class DrawnTest(Base):
    def test_drawn_lives(self):
        draw = helper.drawing(15)
        cuts = kept_commits = 0
        for _ in range(12):
            disk = Disk(draw.choice([60, 61, 90]))
            allowed = [(0, ())]
            for _ in range(25):
                if draw.randrange(4):
                    disk.fail_after(draw.randrange(60))
                try:
                    database = Database(disk)
                    self.assertIn(state_of(database), allowed)
                    kept_commits += state_of(database) == allowed[-1] and len(allowed) > 1
                    self.live(draw, database, allowed)
                except PowerOff:
                    cuts += 1
                disk.power([draw.randrange(2) == 1 for _ in range(disk.pending())])
                self.assertIn(told(disk) or (0, ()), allowed)
        self.assertGreater(min(cuts, kept_commits), 5)

    def live(self, draw, database, allowed):
        """Run statements and transactions; allowed has the states that may be found from then on."""
        allowed[:] = [state_of(database)]
        sessions = [database.session() for _ in range(2)]
        for statement in SCHEMA[:1] + SCHEMA[3:4]:
            if statement[1] not in (list(database.store.state.relations) + list(database.store.state.layouts)):
                self.attempt(allowed, database, sessions[0], statement)
        for _ in range(draw.randrange(40)):
            number = draw.randrange(5)
            statement = draw.choice([add(number, ""), ("remove", "r", (number, "")), ask(number)])
            self.attempt(allowed, database, draw.choice(sessions), statement)

    def attempt(self, allowed, database, session, statement):
        """Run a statement that may be cut off."""
        before = state_of(database)
        after = database.store.state.change([])
        if statement[0] in ("add", "relation", "layout"):
            item = ("fact",) + statement[1:] if statement[0] == "add" else statement
            after = after.change([("comes", item)])
        elif statement[0] == "remove":
            after = after.change([("goes", (1, "r", statement[2]))])
        if after.all_items() != list(before[1]):
            allowed[:] = [before, (before[0] + 1, tuple(after.all_items()))]
        session.run(statement)
        allowed[:] = [allowed[-1]]
        self.assertEqual(state_of(database), allowed[0])

    def test_the_model_goes_on_behind_losses(self):
        draw = helper.drawing(16)
        pair = Pair(self, 90)
        for statement in SCHEMA:
            pair.run(statement)
        for _ in range(12):
            for _ in range(draw.randrange(25)):
                number = draw.randrange(5)
                pair.run(draw.choice([add(number), ("remove", "r", (number, "x" * 30)), ask(number), ask(number)]))
            pair.open_again([draw.randrange(2) == 1 for _ in range(pair.disk.pending())])


if __name__ == "__main__":
    unittest.main()
