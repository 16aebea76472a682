"""Tests of sessions and their transactions (points 31 to 34 and 46 to 48, and 3 for them)."""

import unittest

import helper
from helper import Pair
from turnshelves.database import Database
from turnshelves.disk import Disk
from turnshelves.errors import NoSavepoint, NoTransaction, ShelfError, TransactionOpen

ANY = ("any",)
X, Y = ("variable", "x"), ("variable", "y")
NONE = ("answer", None)
TRUE, FALSE = ("answer", True), ("answer", False)
SCHEMA = [
    ("relation", "q", ("d",), 2),
    ("relation", "r", ("a", "b"), 6),
    ("structure", "s", "r", ("a",), 4, 2),
    ("structure", "t", "q", ("d",), 2, 1),
    ("layout", "k", ()),
    ("layout", "l", ("s",)),
    ("layout", "m", ("t", "s")),
]
COUNT = ("ask", (("count", "n", "r", (ANY, ANY)),))


def add(number, text=""):
    return ("add", "r", (number, text))


def remove(number, text=""):
    return ("remove", "r", (number, text))


def ask(number):
    return ("ask", (("fact", "r", (("value", number), X)),))


class Base(unittest.TestCase):
    def setUp(self):
        self.pair = Pair(self, 120)
        for statement in SCHEMA + [add(1, "x"), add(2, "y"), ("add", "q", (5,))]:
            self.assertEqual(self.pair.run(statement)[0], "answer")

    def say(self, session, *statements):
        """Run statements, and return what the last one is told."""
        told = None
        for statement in statements:
            told = self.pair.run(statement, session)
        return told

    def begin(self, *sessions):
        for session in sessions:
            self.assertEqual(self.pair.do(session, "begin"), NONE)

    def commit(self, session):
        return self.pair.do(session, "commit")

    def rows(self):
        return self.pair.model.state().facts["r"]


class TransactionTest(Base):
    def test_a_commit(self):
        self.begin("a")
        commits = self.pair.database.status()[0]
        self.assertEqual(self.say("a", add(3)), TRUE)
        self.assertEqual(self.say("a", add(3)), FALSE)
        self.assertEqual(self.say("a", remove(1, "x")), TRUE)
        self.assertEqual(self.say("a", COUNT), ("answer", (("n",), [(2,)])))
        self.assertEqual(self.say("b", COUNT), ("answer", (("n",), [(2,)])))
        self.assertEqual(self.rows(), [(1, "x"), (2, "y")])
        self.assertEqual(self.pair.database.status()[0], commits)
        self.assertEqual(self.commit("a"), NONE)
        self.assertEqual(self.rows(), [(2, "y"), (3, "")])
        # It is one commit.
        self.assertEqual(self.pair.database.status()[0], commits + 1)
        self.assertEqual(self.commit("a"), ("none",))

    def test_a_rollback(self):
        self.begin("a")
        self.say("a", add(3), ("drop", "q"), ("relation", "z", ("a",), 1))
        self.assertEqual(self.pair.do("a", "rollback"), NONE)
        self.assertEqual(self.rows(), [(1, "x"), (2, "y")])
        self.assertEqual(self.say("a", add(3)), TRUE)
        self.begin("a")
        self.assertEqual(self.commit("a"), NONE)

    def test_a_commit_that_changes_nothing(self):
        for statements in [[], [COUNT], [("show",)], [add(1, "x")], [remove(9)], [add(7), remove(7)],
                           [("relation", "z", ("a",), 1), ("drop", "z")], [("leave", "l"), SCHEMA[5]]]:
            self.begin("a")
            before = (self.pair.database.status()[0], self.pair.disk.counts()[2:])
            self.say("a", *statements)
            self.assertEqual(self.commit("a"), NONE)
            self.assertEqual((self.pair.database.status()[0], self.pair.disk.counts()[2:]), before)

    def test_a_commit_reads_for_all_its_statements(self):
        self.begin("a")
        self.pair.do("a", "savepoint", "m")
        self.say("a", COUNT, ask(1), add(3), ("add", "p", ()))
        self.pair.do("a", "rollback_to", "m")
        before = self.pair.disk.counts()
        self.assertEqual(self.commit("a"), NONE)
        after = self.pair.disk.counts()
        self.assertGreater(after[0], before[0])
        self.assertEqual(after[1:], before[1:])

    def test_begin_and_its_kin_are_no_requests(self):
        self.begin("a")
        before = (self.pair.disk.counts(), self.pair.database.status())
        self.pair.do("a", "savepoint", "m")
        self.pair.do("a", "rollback_to", "m")
        self.pair.do("a", "rollback_to", "n")
        self.pair.do("a", "rollback")
        self.begin("a", "b")
        self.assertEqual((self.pair.disk.counts(), self.pair.database.status()), before)

    def test_a_refused_statement_is_noted(self):
        self.begin("a")
        self.assertEqual(self.say("a", ("add", "z", (1,))), ("problem", ("no relation", "z")))
        self.say("a", add(3))
        self.assertEqual(self.say("b", ("relation", "z", ("a",), 1)), NONE)
        self.assertEqual(self.commit("a"), ("answer", (0, TRUE)))
        self.assertEqual(self.rows(), [(1, "x"), (2, "y")])
        self.begin("a")
        self.assertEqual(self.say("a", ("add", "z", (1, 2))), ("problem", ("width", "z")))
        self.say("a", add(3))
        self.assertEqual(self.commit("a"), NONE)
        self.assertEqual(len(self.rows()), 3)


class DisturbTest(Base):
    def test_transactions_that_do_not_disturb_each_other(self):
        self.begin("a", "b", "c")
        self.say("a", add(3), ask(3))
        self.say("b", add(4), ask(4), remove(1, "x"))
        self.say("c", ("add", "q", (6,)), ask(2))
        for session in "bac":
            self.assertEqual(self.commit(session), NONE)
        self.assertEqual(self.rows(), [(2, "y"), (3, ""), (4, "")])
        self.assertEqual(self.pair.model.state().facts["q"], [(5,), (6,)])

    def test_an_answer_that_is_another_one(self):
        self.begin("a", "b")
        self.say("a", COUNT, add(3))
        self.say("b", COUNT, add(4))
        self.assertEqual(self.commit("a"), NONE)
        self.assertEqual(self.commit("b"), ("answer", (0, ("answer", (("n",), [(3,)])))))
        self.assertEqual(self.rows(), [(1, "x"), (2, "y"), (3, "")])
        # The transaction has ended.
        self.assertEqual(self.commit("b"), ("none",))
        self.begin("b")
        self.say("b", COUNT, add(4))
        self.assertEqual(self.commit("b"), NONE)

    def test_the_same_fact_twice(self):
        self.begin("a", "b")
        self.assertEqual(self.say("a", ask(1), add(3)), TRUE)
        self.assertEqual(self.say("b", add(3)), TRUE)
        self.assertEqual(self.commit("b"), NONE)
        self.assertEqual(self.commit("a"), ("answer", (1, FALSE)))

    def test_the_same_fact_removed(self):
        self.begin("a", "b")
        self.assertEqual(self.say("a", remove(1, "x")), TRUE)
        self.assertEqual(self.say("b", remove(1, "x")), TRUE)
        self.assertEqual(self.commit("a"), NONE)
        self.assertEqual(self.commit("b"), ("answer", (0, FALSE)))

    def test_problems_that_come_and_go(self):
        self.begin("a", "b")
        self.say("a", ("relation", "z", ("a",), 1))
        self.assertEqual(self.say("b", ("add", "z", (1,))), ("problem", ("no relation", "z")))
        self.assertEqual(self.commit("a"), NONE)
        self.assertEqual(self.commit("b"), ("answer", (0, TRUE)))
        self.begin("a", "b")
        self.say("a", ("drop", "z"))
        self.assertEqual(self.say("b", ask(1), ("add", "z", (2,))), TRUE)
        self.assertEqual(self.commit("a"), NONE)
        self.assertEqual(self.commit("b"), ("answer", (1, ("problem", ("no relation", "z")))))

    def test_a_statement_outside_disturbs_a_transaction(self):
        self.begin("a")
        self.say("a", ask(3))
        self.assertEqual(self.say("b", add(3)), TRUE)
        # The own state is made of the state now.
        self.assertEqual(self.say("a", COUNT), ("answer", (("n",), [(3,)])))
        self.assertEqual(self.commit("a"), ("answer", (0, ("answer", (("x",), [("",)])))))
        self.begin("a")
        self.say("a", ask(3))
        self.assertEqual(self.say("b", add(4)), TRUE)
        self.assertEqual(self.commit("a"), NONE)

    def test_a_room_that_another_one_took(self):
        # "q" and "t" have two sectors each, and one sector holds one of these rows.
        rows = [("w" * 29 + mark,) for mark in "abcdefgh"]
        self.say("a", ("remove", "q", (5,)))
        self.begin("a", "b")
        for row in rows[:4]:
            self.say("b", ("add", "q", row))
        told = [self.say("a", ("add", "q", row)) for row in rows[4:]]
        self.assertIn(TRUE, told)
        self.assertEqual(self.commit("b"), NONE)
        index, again = self.commit("a")[1]
        self.assertEqual(told[index], TRUE)
        self.assertEqual(again[0], "problem")
        self.assertEqual(again[1][0], "full")

    def test_what_was_taken_back_counts(self):
        self.begin("a")
        self.pair.do("a", "savepoint", "m")
        self.say("a", ask(3))
        self.pair.do("a", "rollback_to", "m")
        self.say("a", add(7))
        self.say("b", add(3))
        self.assertEqual(self.commit("a"), ("answer", (0, ("answer", (("x",), [("",)])))))

    def test_the_index(self):
        self.begin("a")
        self.say("a", ("drop", "p"))
        self.pair.do("a", "savepoint", "m")
        self.say("a", add(8))
        self.pair.do("a", "rollback_to", "m")
        self.pair.do("a", "savepoint", "n")
        self.say("a", ask(1), COUNT)
        self.say("b", remove(2, "y"))
        self.assertEqual(self.commit("a"), ("answer", (3, ("answer", (("n",), [(1,)])))))

    def test_schema_and_rows(self):
        self.begin("a", "b")
        self.say("a", ("leave", "l"), ("relation", "z", ("a",), 1))
        self.say("b", add(3))
        self.assertEqual(self.commit("a"), NONE)
        self.assertEqual(self.commit("b"), NONE)
        self.begin("a", "b")
        self.say("a", ("show",))
        self.say("b", add(4))
        self.assertEqual(self.commit("b"), NONE)
        # No fact is shown.
        self.assertEqual(self.commit("a"), NONE)


class SavepointTest(Base):
    def test_ways_back(self):
        self.begin("a")
        self.say("a", add(3))
        self.assertEqual(self.pair.do("a", "savepoint", "m"), NONE)
        self.say("a", add(4))
        self.assertEqual(self.pair.do("a", "savepoint", "m"), NONE)
        self.say("a", add(5))
        self.assertEqual(self.say("a", COUNT), ("answer", (("n",), [(5,)])))
        self.assertEqual(self.pair.do("a", "rollback_to", "m"), NONE)
        self.assertEqual(self.say("a", COUNT), ("answer", (("n",), [(4,)])))
        self.assertEqual(self.pair.do("a", "rollback_to", "m"), NONE)
        self.assertEqual(self.say("a", COUNT), ("answer", (("n",), [(4,)])))
        self.assertEqual(self.commit("a"), NONE)
        self.assertEqual(self.rows(), [(1, "x"), (2, "y"), (3, ""), (4, "")])

    def test_marks_that_are_gone(self):
        self.begin("a")
        for name in "mno":
            self.pair.do("a", "savepoint", name)
        self.assertEqual(self.pair.do("a", "rollback_to", "n"), NONE)
        self.assertEqual(self.pair.do("a", "rollback_to", "o"), ("no savepoint",))
        self.assertEqual(self.pair.do("a", "rollback_to", "n"), NONE)
        self.assertEqual(self.pair.do("a", "rollback_to", "m"), NONE)
        self.assertEqual(self.pair.do("a", "rollback_to", "n"), ("no savepoint",))

    def test_marks_are_those_of_the_transaction(self):
        self.begin("a", "b")
        self.pair.do("a", "savepoint", "m")
        self.assertEqual(self.pair.do("b", "rollback_to", "m"), ("no savepoint",))
        self.commit("a")
        self.begin("a")
        self.assertEqual(self.pair.do("a", "rollback_to", "m"), ("no savepoint",))


class ErrorTest(Base):
    def test_transaction_open(self):
        self.begin("a")
        self.say("a", add(3))
        for _ in range(2):
            with self.assertRaises(TransactionOpen) as caught:
                self.pair.session("a").begin()
            self.assertIsInstance(caught.exception, ShelfError)
        self.pair.check()
        # It is the transaction that was open.
        self.assertEqual(self.say("a", COUNT), ("answer", (("n",), [(3,)])))
        self.begin("b")
        self.assertEqual(self.commit("a"), NONE)

    def test_no_transaction(self):
        session = self.pair.session("a")
        for _ in range(2):
            for action in (session.commit, session.rollback, lambda: session.savepoint("m"),
                           lambda: session.rollback_to("m")):
                with self.assertRaises(NoTransaction) as caught:
                    action()
                self.assertIsInstance(caught.exception, ShelfError)
        self.pair.check()
        self.begin("a")
        self.assertEqual(self.pair.do("a", "rollback_to", "m"), ("no savepoint",))
        self.pair.do("a", "rollback")
        with self.assertRaises(NoTransaction):
            session.rollback()
        # Of NoTransaction and NoSavepoint the first one is raised.
        with self.assertRaises(NoTransaction):
            session.rollback_to("m")

    def test_no_savepoint_changes_nothing(self):
        self.begin("a")
        self.say("a", add(3))
        with self.assertRaises(NoSavepoint) as caught:
            self.pair.session("a").rollback_to("m")
        self.assertIsInstance(caught.exception, ShelfError)
        self.pair.do("a", "savepoint", "m")
        self.assertEqual(self.say("a", COUNT), ("answer", (("n",), [(3,)])))
        self.assertEqual(self.commit("a"), NONE)

    def test_what_methods_return(self):
        session = Database(Disk(60)).session()
        self.assertIsNone(session.begin())
        self.assertIsNone(session.savepoint("m"))
        self.assertIsNone(session.rollback_to("m"))
        self.assertIsNone(session.rollback())
        session.begin()
        self.assertIsNone(session.commit())

    def test_a_refused_commit_is_a_tuple(self):
        self.begin("a")
        self.say("a", add(3))
        self.say("b", add(3))
        told = self.pair.session("a").commit()
        self.pair.model.commit("a")
        self.assertEqual(told, (0, ("answer", False)))
        self.assertIs(type(told), tuple)
        self.assertIs(type(told[1]), tuple)


class DrawnTest(Base):
    def test_several_sessions(self):
        draw = helper.drawing(12)
        refused = stored = 0
        for _ in range(1800):
            session = draw.choice("abc")
            word = draw.choice(["run"] * 9 + ["begin", "begin", "commit", "commit", "rollback", "savepoint",
                "rollback_to"])
            if word == "run":
                self.pair.run(self.drawn(draw), session)
            elif word in ("savepoint", "rollback_to"):
                self.pair.do(session, word, draw.choice("mn"))
            else:
                told = self.pair.do(session, word)
                refused += word == "commit" and told[0] == "answer" and told[1] is not None
                stored += word == "commit" and told == NONE
        self.assertGreater(min(refused, stored), 5, (refused, stored))
        self.pair.check_paper()

    def drawn(self, draw):
        number, text = draw.randrange(4), draw.choice(["", "x" * 30])
        return draw.choice([
            add(number, text), add(number, text), remove(number, text), ask(number), ask(number), COUNT,
            ("add", "q", (number,)), ("remove", "q", (number,)), ("show",),
            ("ask", (("fact", "q", (X,)), ("fact", "r", (X, Y)))),
            draw.choice([("relation", "z", ("a",), 2), ("drop", "z"), ("add", "z", (number,)), ("leave", "l"),
                SCHEMA[5],
                         ("structure", "u", "r", ("b",), 2, 3), ("take", "u"), ("layout", "n", ("u",)),
                         ("leave", "n")]),
        ])


if __name__ == "__main__":
    unittest.main()
