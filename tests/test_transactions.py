"""Tests of the words of transactions (points 31 to 34 as far as they speak of them, and 3)."""

import unittest

import helper
from helper import modify, parts
from turnshelves.errors import NoSavepoint, Refused, ShelfError
from turnshelves.states import State
from turnshelves.statements import say, statement_calls
from turnshelves.transactions import Words

X, Y = ("variable", "x"), ("variable", "y")
ITEMS = [
    ("relation", "q", ("c",), 1),
    ("relation", "r", ("a", "b"), 2),
    ("fact", "r", (1, 2)),
    ("fact", "r", (1, "x")),
    ("structure", "s", "r", ("b",), 4, 1),
    ("layout", "l", ("s",)),
]
STATE = State(ITEMS)
ASK = ("ask", (("fact", "r", (X, Y)),))
COUNT = ("ask", (("count", "x", "r", (("any",), ("any",))),))
SHOW = ("show",)


def add(*row):
    return ("add", "r", row)


def remove(*row):
    return ("remove", "r", row)


def refused(words, state, statement):
    """The problem of a statement, or None."""
    try:
        words.say(state, statement)
    except Refused as caught:
        return caught.problem
    return None


class Base(unittest.TestCase):
    def check_state(self, state, items):
        self.assertIs(type(state), State)
        self.assertEqual(parts(state), parts(State(items)))

    def check_same(self, words, state, items):
        """All answers are the same on a state, and this is made."""
        before = parts(state)
        self.check_state(words.own(state), items)
        told = words.again(state)
        self.assertIs(type(told), tuple)
        self.assertEqual(told[:2], (None, None))
        self.check_state(told[2], items)
        self.assertEqual(parts(state), before)

    def check_other(self, words, state, index, told):
        """An answer is another one on a state."""
        before = parts(state)
        self.assertEqual(words.again(state), (index, told, None))
        self.assertIs(type(words.again(state)[1]), tuple)
        self.assertEqual(parts(state), before)


class SayTest(Base):
    def test_nothing_said(self):
        words = Words()
        self.check_same(words, STATE, ITEMS)
        self.check_same(words, State(), [])
        self.assertEqual(words.all_calls(STATE), [])

    def test_statements_of_all_sorts(self):
        words = Words()
        fact, relation = ("fact", "r", (3, 4)), ("relation", "n", ("a",), 3)
        structure, layout = ("structure", "t", "n", ("a",), 2, 2), ("layout", "m", ("t", "s"))
        shown = [item for item in ITEMS if item[0] != "fact"]
        for statement, wanted in [
            (add(3, 4), True), (add(3, 4), False), (add(1, 2), False), (remove(9, 9), False), (remove(1, 2), True),
            (relation, None), (structure, None), (layout, None), (("leave", "l"), None), (("drop", "q"), None),
            (ASK, (("x", "y"), [(1, "x"), (3, 4)])), (COUNT, (("x",), [(2,)])),
        ]:
            with self.subTest(statement=statement):
                told = words.say(STATE, statement)
                self.assertEqual(told, wanted)
                self.assertIs(type(told), type(wanted))
        made = [relation, ITEMS[1], ITEMS[3], fact, ITEMS[4], structure, layout]
        self.assertEqual(words.say(STATE, SHOW), [item for item in State(made).all_items() if item[0] != "fact"])
        self.check_same(words, STATE, made)
        self.assertEqual(say(STATE, SHOW)[0], shown)

    def test_each_statement_sees_the_own_state(self):
        words = Words()
        self.assertEqual(words.say(STATE, COUNT), (("x",), [(2,)]))
        words.say(STATE, add(5, 5))
        self.assertEqual(words.say(STATE, COUNT), (("x",), [(3,)]))
        words.say(STATE, remove(1, 2))
        words.say(STATE, remove(1, "x"))
        self.assertEqual(words.say(STATE, ASK), (("x", "y"), [(5, 5)]))
        self.check_state(STATE, ITEMS)

    def test_refused_statements(self):
        words = Words()
        for statement, problem in [
            (("relation", "r", ("a",), 1), ("exists", "relation", "r")), (("add", "p", (1,)), ("no relation", "p")),
            (add(1), ("width", "r")), (("ask", (("compare", "=", X, X),)), ("unbound", "x")),
            (("take", "s"), ("used", "l")), (("drop", "r"), ("used", "s")), (add("x" * 30, "y" * 30), ("long",)),
        ]:
            with self.subTest(statement=statement):
                with self.assertRaises(Refused) as caught:
                    words.say(STATE, statement)
                self.assertEqual(caught.exception.problem, problem)
                self.assertIs(type(caught.exception.problem), tuple)
        self.check_same(words, STATE, ITEMS)

    def test_a_refused_statement_is_noted(self):
        words = Words()
        self.assertEqual(refused(words, STATE, ("add", "p", (1,))), ("no relation", "p"))
        state = STATE.change([("comes", ("relation", "p", ("a",), 1))])
        self.check_other(words, state, 0, ("answer", True))
        state = STATE.change([("comes", ("relation", "p", ("a", "b"), 1))])
        self.check_other(words, state, 0, ("problem", ("width", "p")))

    def test_the_state_is_given_with_each_statement(self):
        words = Words()
        self.assertEqual(words.say(STATE, add(7, 7)), True)
        other = STATE.change([("goes", (1, "r", (1, 2)))])
        self.assertEqual(words.say(other, ASK), (("x", "y"), [(1, "x"), (7, 7)]))
        self.check_other(words, STATE, 1, ("answer", (("x", "y"), [(1, 2), (1, "x"), (7, 7)])))
        self.check_same(words, other, ITEMS[:2] + ITEMS[3:] + [("fact", "r", (7, 7))])


class SavepointTest(Base):
    def fact_words(self, words, state):
        """The numbers of the facts (n, 0) in the own state."""
        return [row[0] for row in words.own(state).facts["r"] if row[1] == 0]

    def test_a_way_back(self):
        words = Words()
        words.say(STATE, add(1, 0))
        self.assertIsNone(words.savepoint("a"))
        words.say(STATE, add(2, 0))
        self.assertEqual(self.fact_words(words, STATE), [1, 2])
        self.assertIsNone(words.rollback_to(STATE, "a"))
        self.assertEqual(self.fact_words(words, STATE), [1])
        words.say(STATE, add(3, 0))
        self.assertEqual(self.fact_words(words, STATE), [1, 3])

    def test_the_mark_stays(self):
        words = Words()
        words.savepoint("a")
        for number in (1, 2, 3):
            words.say(STATE, add(number, 0))
            words.rollback_to(STATE, "a")
            self.assertEqual(self.fact_words(words, STATE), [])
            words.rollback_to(STATE, "a")
        self.check_same(words, STATE, ITEMS)

    def test_later_marks_are_gone(self):
        words = Words()
        for number, name in enumerate("abc"):
            words.say(STATE, add(number, 0))
            words.savepoint(name)
        words.say(STATE, add(3, 0))
        words.rollback_to(STATE, "b")
        self.assertEqual(self.fact_words(words, STATE), [0, 1])
        with self.assertRaises(NoSavepoint):
            words.rollback_to(STATE, "c")
        words.rollback_to(STATE, "b")
        words.rollback_to(STATE, "a")
        self.assertEqual(self.fact_words(words, STATE), [0])
        for name in "bc":
            with self.assertRaises(NoSavepoint):
                words.rollback_to(STATE, name)
        words.rollback_to(STATE, "a")
        words.savepoint("c")
        words.rollback_to(STATE, "c")

    def test_the_newest_mark_of_a_name(self):
        words = Words()
        words.say(STATE, add(1, 0))
        words.savepoint("a")
        words.say(STATE, add(2, 0))
        words.savepoint("b")
        words.say(STATE, add(3, 0))
        words.savepoint("a")
        words.say(STATE, add(4, 0))
        words.rollback_to(STATE, "a")
        self.assertEqual(self.fact_words(words, STATE), [1, 2, 3])
        words.rollback_to(STATE, "a")
        self.assertEqual(self.fact_words(words, STATE), [1, 2, 3])
        # Behind the way back to "b" the older mark "a" is the newest one.
        words.rollback_to(STATE, "b")
        self.assertEqual(self.fact_words(words, STATE), [1, 2])
        words.rollback_to(STATE, "a")
        self.assertEqual(self.fact_words(words, STATE), [1])
        with self.assertRaises(NoSavepoint):
            words.rollback_to(STATE, "b")

    def test_no_savepoint(self):
        words = Words()
        for name in ("a", "b"):
            with self.assertRaises(NoSavepoint) as caught:
                words.rollback_to(STATE, name)
            self.assertIsInstance(caught.exception, ShelfError)
        words.say(STATE, add(1, 0))
        words.savepoint("a")
        words.say(STATE, add(2, 0))
        with self.assertRaises(NoSavepoint):
            words.rollback_to(STATE, "b")
        self.assertEqual(self.fact_words(words, STATE), [1, 2])
        words.say(STATE, add(3, 0))
        # It was not noted: a mark that comes later is not what it would go back to.
        words.savepoint("b")
        words.say(STATE, add(4, 0))
        self.assertEqual(self.fact_words(words, STATE), [1, 2, 3, 4])
        self.check_same(words, STATE, ITEMS + [("fact", "r", (number, 0)) for number in (1, 2, 3, 4)])

    def test_back_to_the_state_there_in_this_run(self):
        words = Words()
        words.say(STATE, add(1, 0))
        words.savepoint("a")
        words.say(STATE, ("relation", "n", ("a",), 1))
        words.rollback_to(STATE, "a")
        other = STATE.change([("comes", ("fact", "r", (9, 0)))])
        self.check_same(words, other, ITEMS + [("fact", "r", (9, 0)), ("fact", "r", (1, 0))])
        self.check_same(words, STATE, ITEMS + [("fact", "r", (1, 0))])

    def test_a_schema_is_taken_back(self):
        words = Words()
        words.savepoint("a")
        words.say(STATE, ("leave", "l"))
        words.say(STATE, ("take", "s"))
        words.say(STATE, ("drop", "r"))
        self.check_state(words.own(STATE), ITEMS[:1])
        words.rollback_to(STATE, "a")
        self.check_same(words, STATE, ITEMS)

    def test_statements_that_were_taken_back_are_looked_at(self):
        words = Words()
        words.savepoint("a")
        self.assertTrue(words.say(STATE, add(5, 5)))
        words.rollback_to(STATE, "a")
        words.say(STATE, ("relation", "n", ("a",), 1))
        other = STATE.change([("comes", ("fact", "r", (5, 5)))])
        self.check_other(words, other, 0, ("answer", False))


class AgainTest(Base):
    def test_index_counts_statements_alone(self):
        words = Words()
        self.assertEqual(refused(words, STATE, ("drop", "p")), ("no relation", "p"))
        words.savepoint("a")
        words.savepoint("b")
        words.say(STATE, add(1, 0))
        words.rollback_to(STATE, "a")
        self.assertEqual(refused(words, STATE, ("drop", "r")), ("used", "s"))
        words.savepoint("a")
        words.say(STATE, COUNT)
        words.rollback_to(STATE, "a")
        words.say(STATE, ("leave", "l"))
        words.say(STATE, add(4, 0))
        for item, index, told in [
            (("relation", "p", ("a",), 1), 0, ("answer", None)),
            (("fact", "r", (1, 0)), 1, ("answer", False)),
            (("structure", "k", "r", ("a",), 1, 1), 2, ("problem", ("used", "k"))),
            (("fact", "r", (8, 8)), 3, ("answer", (("x",), [(3,)]))),
            (("fact", "q", (8,)), None, None),
        ]:
            with self.subTest(item=item):
                state = STATE.change([("comes", item)])
                self.assertEqual(words.again(state)[:2], (index, told))
        state = STATE.change([("goes", (3, "l", ()))])
        self.check_other(words, state, 4, ("problem", ("no layout", "l")))

    def test_the_first_difference_counts(self):
        words = Words()
        for number in range(3):
            words.say(STATE, add(number, 0))
        state = STATE.change([("comes", ("fact", "r", (2, 0)))])
        self.check_other(words, state, 2, ("answer", False))
        state = state.change([("comes", ("fact", "r", (1, 0)))])
        self.check_other(words, state, 1, ("answer", False))
        state = state.change([("comes", ("fact", "r", (0, 0)))])
        self.check_other(words, state, 0, ("answer", False))

    def test_answers_that_become_problems_and_back(self):
        words = Words()
        words.say(STATE, ("leave", "l"))
        other = STATE.change([("goes", (3, "l", ()))])
        self.check_other(words, other, 0, ("problem", ("no layout", "l")))
        words = Words()
        self.assertEqual(refused(words, other, ("leave", "l")), ("no layout", "l"))
        self.check_other(words, STATE, 0, ("answer", None))

    def test_a_problem_of_another_kind(self):
        words = Words()
        self.assertEqual(refused(words, STATE, ("take", "s")), ("used", "l"))
        self.check_other(words, State(), 0, ("problem", ("no structure", "s")))
        other = STATE.change([("comes", ("layout", "k", ("s",)))])
        self.check_other(words, other, 0, ("problem", ("used", "k")))
        other = STATE.change([("comes", ("layout", "m", ("s",)))])
        self.check_same(words, other, ITEMS + [("layout", "m", ("s",))])

    def test_answers_of_other_kinds(self):
        # A question tells 1 and another state "1", and a shown room is 2 and then 3.
        words = Words()
        ask = ("ask", (("fact", "q", (X,)),))
        state = STATE.change([("comes", ("fact", "q", (1,)))])
        self.assertEqual(words.say(state, ask), (("x",), [(1,)]))
        other = STATE.change([("comes", ("fact", "q", ("1",)))])
        self.check_other(words, other, 0, ("answer", (("x",), [("1",)])))
        self.check_other(words, STATE, 0, ("answer", (("x",), [])))
        words = Words()
        words.say(STATE, SHOW)
        other = STATE.change([("comes", ("relation", "q", ("c",), 2))])
        self.check_other(words, other, 0, ("answer", say(other, SHOW)[0]))
        self.check_same(words, STATE.change([("comes", ("fact", "q", (1,)))]), ITEMS + [("fact", "q", (1,))])

    def test_true_is_not_one(self):
        # No value is a boolean, but such an answer would be of another kind than 1.
        words = Words()
        ask = ("ask", (("fact", "q", (X,)),))
        words.say(STATE.change([("comes", ("fact", "q", (1,)))]), ask)
        index, told, made = words.again(STATE.change([("comes", ("fact", "q", (True,)))]))
        self.assertEqual((index, made), (0, None))
        self.assertIs(told[1][1][0][0], True)

    def test_an_answer_is_never_a_problem(self):
        # The answer to a question without columns and the problem of another one look much the same.
        words = Words()
        self.assertEqual(words.say(STATE, ("ask", ())), ((), [()]))
        self.check_same(words, State(), [])
        words = Words()
        body = (("fact", "r", (X, ("any",))),)
        self.assertEqual(refused(words, State(), ("ask", body)), ("no relation", "r"))
        self.check_other(words, State([("relation", "r", ("a", "b"), 1)]), 0, ("answer", (("x",), [])))

    def test_equal_answers_on_another_state(self):
        words = Words()
        words.say(STATE, add(5, 5))
        words.say(STATE, ("ask", (("fact", "q", (X,)),)))
        other = STATE.change([("goes", (1, "r", (1, 2))), ("comes", ("fact", "r", (6, 6)))])
        wanted = ITEMS[:2] + ITEMS[3:] + [("fact", "r", (5, 5)), ("fact", "r", (6, 6))]
        self.check_same(words, other, wanted)

    def test_the_words_stay_as_they_are(self):
        words = Words()
        words.say(STATE, add(5, 5))
        words.savepoint("a")
        words.say(STATE, COUNT)
        other = STATE.change([("comes", ("fact", "r", (6, 6)))])
        for _ in range(3):
            self.check_same(words, STATE, ITEMS + [("fact", "r", (5, 5))])
            self.check_other(words, other, 1, ("answer", (("x",), [(4,)])))
            self.check_other(words, State(), 0, ("problem", ("no relation", "r")))
            self.assertEqual(len(words.all_calls(STATE)), 2)
        words.rollback_to(other, "a")
        words.say(STATE, add(7, 7))
        self.check_same(words, STATE, ITEMS + [("fact", "r", (5, 5)), ("fact", "r", (7, 7))])

    def test_without_such_a_mark_nothing_changes(self):
        # Marks are made whatever statements are told, so on another state they are there, too.
        words = Words()
        words.say(STATE, ("leave", "l"))
        words.savepoint("a")
        words.say(STATE, add(1, 0))
        words.rollback_to(STATE, "a")
        self.check_state(words.own(State()), [])
        self.check_state(words.own(STATE), ITEMS[:-1])


class CallsTest(Base):
    def test_the_calls_of_statements(self):
        words = Words()
        statements = [add(5, 5), ASK, SHOW, COUNT, remove(1, 2), ("leave", "l"), remove(8, 8)]
        for statement in statements:
            words.say(STATE, statement)
        self.assertEqual(words.all_calls(STATE), [
            ("r", (5, 5)), ("r", (None, None)), ("r", (None, None)), ("r", (1, 2)), ("r", (8, 8)),
        ])
        self.assertIs(type(words.all_calls(STATE)), list)

    def test_refused_statements_have_none(self):
        words = Words()
        for statement in [("add", "p", (1,)), add(1), ("ask", (("fact", "r", (X, Y)), ("fact", "p", ())))]:
            self.assertIsNotNone(refused(words, STATE, statement))
        self.assertEqual(words.all_calls(STATE), [])
        # On another state the first of them is not refused.
        other = STATE.change([("comes", ("relation", "p", ("a",), 1))])
        self.assertEqual(words.all_calls(other), [("p", (1,))])

    def test_statements_that_were_taken_back_and_repetitions(self):
        words = Words()
        words.savepoint("a")
        words.say(STATE, add(5, 5))
        words.say(STATE, ASK)
        words.rollback_to(STATE, "a")
        words.say(STATE, add(5, 5))
        self.assertEqual(words.all_calls(STATE), [("r", (5, 5)), ("r", (None, None)), ("r", (5, 5))])

    def test_each_on_the_own_state_that_it_sees(self):
        words = Words()
        join = ("ask", (("fact", "r", (X, ("any",))), ("fact", "q", (X,))))
        words.say(STATE, join)
        words.say(STATE, add(7, 0))
        words.say(STATE, join)
        words.savepoint("a")
        words.say(STATE, remove(1, 2))
        words.say(STATE, remove(1, "x"))
        words.say(STATE, join)
        words.rollback_to(STATE, "a")
        words.say(STATE, join)
        everything, one, seven = ("r", (None, None)), ("q", (1,)), ("q", (7,))
        self.assertEqual(words.all_calls(STATE), [
            everything, one, one, ("r", (7, 0)), everything, one, one, seven, ("r", (1, 2)), ("r", (1, "x")),
            everything, seven, everything, one, one, seven,
        ])
        other = State([ITEMS[0], ITEMS[1]])
        self.assertEqual(words.all_calls(other), [
            everything, ("r", (7, 0)), everything, seven, ("r", (1, 2)), ("r", (1, "x")), everything, seven,
            everything, seven,
        ])

    def test_calls_go_on_behind_a_difference(self):
        words = Words()
        words.say(STATE, add(5, 5))
        words.say(STATE, ASK)
        other = STATE.change([("comes", ("fact", "r", (5, 5)))])
        self.assertEqual(words.again(other)[0], 0)
        self.assertEqual(words.all_calls(other), [("r", (5, 5)), ("r", (None, None))])


class SharingTest(Base):
    def test_states_that_were_returned(self):
        words = Words()
        for _ in range(2):
            for get in (words.own, lambda state: words.again(state)[2]):
                made = get(STATE)
                self.assertIsNot(made, STATE)
                modify(made)
                self.check_state(STATE, ITEMS)
            words.savepoint("a")
            words.rollback_to(STATE, "a")
        words.say(STATE, add(5, 5))
        modify(words.own(STATE))
        modify(words.again(STATE)[2])
        self.check_state(STATE, ITEMS)
        self.check_same(words, STATE, ITEMS + [("fact", "r", (5, 5))])

    def test_states_that_were_passed(self):
        words = Words()
        state = STATE.copy()
        words.say(state, ASK)
        words.savepoint("a")
        words.say(state, add(5, 5))
        words.rollback_to(state, "a")
        own = words.own(state)
        made = words.again(state)[2]
        modify(state)
        self.check_state(own, ITEMS)
        self.check_state(made, ITEMS)
        self.check_same(words, STATE, ITEMS)

    def test_answers_that_were_returned(self):
        words = Words()
        told = words.say(STATE, ASK)
        told[1].append((9, 9))
        told[1].sort(key=str)
        shown = words.say(STATE, SHOW)
        shown.clear()
        self.check_same(words, STATE, ITEMS)
        other = STATE.change([("comes", ("fact", "r", (9, 9)))])
        index, answer, _ = words.again(other)
        self.assertEqual(index, 0)
        answer[1][1].clear()
        self.check_other(words, other, 0, ("answer", (("x", "y"), [(1, 2), (1, "x"), (9, 9)])))
        words.all_calls(STATE).clear()
        self.assertEqual(words.all_calls(STATE), [("r", (None, None))])

    def test_two_transactions_share_nothing(self):
        one, other = Words(), Words()
        one.say(STATE, add(5, 5))
        one.savepoint("a")
        self.check_same(other, STATE, ITEMS)
        with self.assertRaises(NoSavepoint):
            other.rollback_to(STATE, "a")


class DrawnTest(Base):
    def test_against_the_words_of_the_document(self):
        draw = helper.drawing(5)
        differences = 0
        for _ in range(300):
            state = STATE.change([("comes", ("fact", "r", (draw.randrange(4), 0))) for _ in range(3)])
            other = state.change([
                draw.choice([("comes", ("fact", "r", (draw.randrange(4), 0))),
                    ("goes", (1, "r", (draw.randrange(4), 0)))])
                for _ in range(draw.randrange(3))
            ])
            words, said, notes = Words(), [], []
            for _ in range(draw.randrange(1, 12)):
                word = self.drawn_word(draw)
                if word[0] == "statement":
                    try:
                        notes.append(("answer", words.say(state, word[1])))
                    except Refused as caught:
                        notes.append(("problem", caught.problem))
                elif word[0] == "savepoint":
                    words.savepoint(word[1])
                else:
                    try:
                        words.rollback_to(state, word[1])
                    except NoSavepoint:
                        continue
                said.append(word)
            made, told, calls = self.slow(state, said)
            self.assertEqual(told, notes)
            self.check_same(words, state, made.all_items())
            self.assertEqual(words.all_calls(state), calls)
            made, told, calls = self.slow(other, said)
            self.assertEqual(words.all_calls(other), calls)
            self.check_state(words.own(other), made.all_items())
            unlike = [at for at, pair in enumerate(zip(told, notes)) if pair[0] != pair[1]]
            if unlike:
                differences += 1
                self.check_other(words, other, unlike[0], told[unlike[0]])
            else:
                self.check_same(words, other, made.all_items())
        self.assertGreater(differences, 20)
        self.assertLess(differences, 200)

    def drawn_word(self, draw):
        sort = draw.randrange(10)
        if sort < 2:
            return ("savepoint", draw.choice("ab"))
        if sort < 4:
            return ("rollback to", draw.choice("abc"))
        row = (draw.randrange(4), 0)
        return ("statement", draw.choice([
            add(*row), add(*row), remove(*row), ("ask", (("not", "r", (("value", row[0]), ("value", 0))),)),
            ("relation", "n", ("a",), 1), ("drop", "n"), ("add", "n", row[:1]), ("structure", "k", "r", ("a",), 2, 1),
        ]))

    def slow(self, state, said):
        """The state, what is told and the calls when words are run, by point 32."""
        marks, notes, calls = [], [], []
        for sort, word in said:
            if sort == "statement":
                calls += statement_calls(state, word)
                try:
                    answer, state = say(state, word)
                    notes.append(("answer", answer))
                except Refused as caught:
                    notes.append(("problem", caught.problem))
            elif sort == "savepoint":
                marks.append((word, state))
            elif word in [name for name, _ in marks]:
                while marks[-1][0] != word:
                    marks.pop()
                state = marks[-1][1]
        return state, notes, calls


if __name__ == "__main__":
    unittest.main()
