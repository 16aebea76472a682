"""Tests of questions (points 8 to 13, and 3 for them)."""

import copy
import itertools
import random
import unittest

from turnshelves.errors import Refused, ShelfError
from turnshelves.questions import answer, calls, check, meets
from turnshelves.states import State
from turnshelves.values import row_key, value_key

MOST = 10 ** 30 - 1
ANY = ("any",)


def val(value):
    return ("value", value)


def var(name):
    return ("variable", name)


def fact(relation, *terms):
    return ("fact", relation, terms)


def no(relation, *terms):
    return ("not", relation, terms)


def cmp(first, operator, second):
    return ("compare", operator, first, second)


def count(variable, relation, *terms):
    return ("count", variable, relation, terms)


def over(word, variable, term, relation, *terms):
    """A sum, least or greatest."""
    return (word, variable, term, relation, terms)


X, Y, Z, N = var("x"), var("y"), var("z"), var("n")

SCHEMA = [
    ("relation", "r", ("a", "b"), 2),
    ("relation", "s", ("c",), 1),
    ("relation", "e", ("a", "b"), 1),
]
ROWS = {
    "r": [(1, 1), (1, 2), (2, 1), (2, "a"), ("a", 2)],
    "s": [(1,), (2,), (3,), ("a",)],
}


def state_of(rows):
    return State(SCHEMA + [("fact", name, row) for name in rows for row in rows[name]])


STATE = state_of(ROWS)


def parts(state):
    return copy.deepcopy((state.relations, state.facts, state.structures, state.layouts))


def rows_of(*body):
    return answer(STATE, body)[1]


class CheckTest(unittest.TestCase):
    def check_problem(self, body, problem):
        """All that looks at a body refuses it with this problem."""
        for told in (check, answer):
            with self.subTest(body=body, told=told.__name__):
                with self.assertRaises(Refused) as caught:
                    told(STATE, body)
                self.assertEqual(caught.exception.problem, problem)
                self.assertIs(type(caught.exception.problem), tuple)
                self.assertIsInstance(caught.exception, ShelfError)

    def test_columns_in_the_order_in_which_they_are_bound(self):
        cases = [
            ((), ()),
            ((fact("r", X, Y),), ("x", "y")),
            ((fact("r", Y, X),), ("y", "x")),
            ((fact("r", X, X),), ("x",)),
            ((fact("r", ANY, val(1)),), ()),
            ((fact("s", Z), fact("r", X, Z), fact("s", Y)), ("z", "x", "y")),
            ((count("n", "s", ANY),), ("n",)),
            ((count("n", "s", X),), ("n",)),
            ((fact("s", Y), count("n", "r", Y, X), fact("s", X)), ("y", "n", "x")),
            ((fact("s", N), count("n", "s", ANY), fact("s", X)), ("n", "x")),
            ((over("sum", "b", Y, "r", X, Y), over("least", "a", X, "s", X)), ("b", "a")),
            ((over("greatest", "n", val(3), "r", X, Y),), ("n",)),
            ((fact("s", X), no("s", X), cmp(X, "=", X)), ("x",)),
            ((fact("e", X, Y),), ("x", "y")),
        ]
        for body, columns in cases:
            with self.subTest(body=body):
                told = check(STATE, body)
                self.assertEqual(told, columns)
                self.assertIs(type(told), tuple)
                self.assertEqual(answer(STATE, body)[0], columns)

    def literals_with(self, relation, *terms):
        """A literal of each kind with a relation and terms."""
        return [
            fact(relation, *terms), no(relation, *terms), count("n", relation, *terms),
            over("sum", "n", val(1), relation, *terms), over("least", "n", val(1), relation, *terms),
            over("greatest", "n", val(1), relation, *terms),
        ]

    def test_no_relation(self):
        for literal in self.literals_with("t", val(1)):
            self.check_problem((literal,), ("no relation", "t"))
        facts_alone = State([("fact", "t", (1,))])
        with self.assertRaises(Refused) as caught:
            check(facts_alone, (fact("t", X),))
        self.assertEqual(caught.exception.problem, ("no relation", "t"))

    def test_width(self):
        for terms in ((), (val(1),), (val(1), val(1), val(1))):
            for literal in self.literals_with("r", *terms):
                self.check_problem((literal,), ("width", "r"))
        for literal in self.literals_with("r", val(1), val(1)):
            check(STATE, (literal,))

    def test_a_relation_comes_before_its_width_and_both_before_the_rest(self):
        for relation, problem in (("t", ("no relation", "t")), ("r", ("width", "r"))):
            self.check_problem((no(relation, X),), problem)
            self.check_problem((count("n", relation, N),), problem)
            for word in ("sum", "least", "greatest"):
                self.check_problem((over(word, "n", ANY, relation, N),), problem)
                self.check_problem((over(word, "n", X, relation, Y),), problem)

    def test_unbound_in_not(self):
        self.check_problem((no("r", X, Y),), ("unbound", "x"))
        self.check_problem((no("r", Y, X),), ("unbound", "y"))
        self.check_problem((no("r", X, X),), ("unbound", "x"))
        self.check_problem((fact("s", X), no("r", X, Y)), ("unbound", "y"))
        self.check_problem((fact("s", X), no("r", Y, X)), ("unbound", "y"))
        self.assertEqual(check(STATE, (no("r", ANY, val(1)),)), ())

    def test_not_binds_nothing(self):
        self.check_problem((no("s", ANY), no("s", X)), ("unbound", "x"))
        self.assertEqual(check(STATE, (fact("s", X), no("r", X, X))), ("x",))

    def test_compare(self):
        for operator in ("=", "<>", "<", "<=", ">", ">="):
            self.assertEqual(check(STATE, (cmp(val(1), operator, val("a")),)), ())
            self.check_problem((cmp(X, operator, val(1)),), ("unbound", "x"))
            self.check_problem((cmp(val(1), operator, X),), ("unbound", "x"))
            self.check_problem((cmp(ANY, operator, val(1)),), ("any",))
            self.check_problem((cmp(val(1), operator, ANY),), ("any",))

    def test_the_terms_of_compare_from_left_to_right(self):
        self.check_problem((cmp(X, "=", Y),), ("unbound", "x"))
        self.check_problem((cmp(X, "=", ANY),), ("unbound", "x"))
        self.check_problem((cmp(ANY, "=", X),), ("any",))
        self.check_problem((fact("s", X), cmp(X, "=", Y)), ("unbound", "y"))

    def test_compare_binds_nothing(self):
        self.check_problem((fact("s", X), cmp(X, "=", Y), fact("s", Y)), ("unbound", "y"))

    def test_own_total(self):
        self.check_problem((count("n", "s", N),), ("own total", "n"))
        self.check_problem((count("n", "r", X, N),), ("own total", "n"))
        self.check_problem((fact("s", N), count("n", "s", N)), ("own total", "n"))
        for word in ("sum", "least", "greatest"):
            self.check_problem((over(word, "n", val(1), "s", N),), ("own total", "n"))
            self.check_problem((fact("s", N), over(word, "n", N, "r", X, N)), ("own total", "n"))

    def test_own_total_comes_before_the_term(self):
        for word in ("sum", "least", "greatest"):
            for term in (ANY, X, N):
                self.check_problem((over(word, "n", term, "s", N),), ("own total", "n"))

    def test_the_term_of_a_total(self):
        for word in ("sum", "least", "greatest"):
            self.check_problem((over(word, "n", ANY, "r", X, Y),), ("any",))
            self.check_problem((over(word, "n", Z, "r", X, Y),), ("unbound", "z"))
            self.check_problem((over(word, "n", N, "r", X, Y),), ("unbound", "n"))
            self.assertEqual(check(STATE, (over(word, "n", X, "r", X, Y),)), ("n",))
            self.assertEqual(check(STATE, (over(word, "n", Y, "r", X, Y),)), ("n",))
            self.assertEqual(check(STATE, (fact("s", Z), over(word, "n", Z, "r", X, Y))), ("z", "n"))
            self.assertEqual(check(STATE, (fact("s", N), over(word, "n", N, "r", X, Y))), ("n",))

    def test_a_total_binds_its_variable_alone(self):
        for total in (count("n", "s", X), over("sum", "n", X, "s", X)):
            self.assertEqual(check(STATE, (total, no("s", N))), ("n",))
            self.check_problem((total, no("s", X)), ("unbound", "x"))
            self.check_problem((total, cmp(X, "=", N)), ("unbound", "x"))
            self.check_problem((total, over("sum", "m", X, "s", ANY)), ("unbound", "x"))

    def test_the_first_of_several_problems(self):
        problems = [
            (fact("t", X), ("no relation", "t")),
            (fact("s", X, Y), ("width", "s")),
            (no("s", Z), ("unbound", "z")),
            (cmp(ANY, "=", val(1)), ("any",)),
            (count("n", "s", N), ("own total", "n")),
            (over("sum", "m", var("k"), "s", ANY), ("unbound", "k")),
        ]
        for (first, problem), (second, _) in itertools.permutations(problems, 2):
            self.check_problem((first, second), problem)
            self.check_problem((fact("s", val(9)), first, second), problem)

    def test_a_body_is_checked_where_no_way_comes(self):
        self.check_problem((fact("e", X, Y), no("s", Z)), ("unbound", "z"))
        self.check_problem((cmp(val(1), "=", val(2)), fact("t", X)), ("no relation", "t"))

    def test_names_and_values_that_are_words_of_literals(self):
        words = ["any", "value", "variable", "fact", "not", "compare", "count", "sum", "least", "greatest"]
        for word in words:
            name = var(word)
            self.assertEqual(check(STATE, (cmp(val(word), "=", val(word)),)), ())
            self.assertEqual(check(STATE, (fact("s", name), cmp(name, "=", val(1)), no("s", name))), (word,))
            self.assertEqual(check(STATE, (count(word, "s", X),)), (word,))
            self.check_problem((cmp(val(word), "=", name),), ("unbound", word))
            self.check_problem((no("s", name),), ("unbound", word))
            self.check_problem((count(word, "s", name),), ("own total", word))
            for total in ("sum", "least", "greatest"):
                self.check_problem((over(total, word, ANY, "s", X),), ("any",))
                self.check_problem((over(total, word, Y, "s", X),), ("unbound", "y"))
                self.check_problem((over(total, "n", name, "s", X),), ("unbound", word))
                self.assertEqual(check(STATE, (over(total, word, val(word), "s", X),)), (word,))
            self.check_problem((fact(word, X),), ("no relation", word))

    def test_relations_that_have_words_of_literals_as_names(self):
        for word in ("any", "value", "variable", "compare", "count", "sum"):
            state = State([("relation", word, (word,), 1), ("fact", word, (word,)), ("fact", word, (1,))])
            for body, columns, rows in [
                ((fact(word, var(word)),), (word,), [(1,), (word,)]), ((fact(word, val(word)),), (), [()]),
                ((count("n", word, var(word)),), ("n",), [(2,)]), ((no(word, val(word)),), (), []),
                ((over("least", "n", var(word), word, var(word)),), ("n",), [(1,)]),
                ((over("greatest", "n", val(word), word, ANY),), ("n",), [(word,)]),
            ]:
                with self.subTest(body=body):
                    self.assertEqual(answer(state, body), (columns, rows))

    def test_nothing_is_modified(self):
        before = parts(STATE)
        body = (fact("s", X), count("n", "r", X, Y))
        check(STATE, body)
        for bad in ((fact("t", X),), (fact("s", X), no("s", Y))):
            with self.assertRaises(Refused):
                check(STATE, bad)
        self.assertEqual(parts(STATE), before)


class AnswerTest(unittest.TestCase):
    def test_the_kinds_of_an_answer(self):
        told = answer(STATE, (fact("r", X, Y),))
        self.assertIs(type(told), tuple)
        self.assertIs(type(told[0]), tuple)
        self.assertIs(type(told[1]), list)
        self.assertEqual({type(row) for row in told[1]}, {tuple})
        self.assertEqual(told, (("x", "y"), ROWS["r"]))

    def test_terms_of_a_fact(self):
        self.assertEqual(rows_of(fact("r", X, val(1))), [(1,), (2,)])
        self.assertEqual(rows_of(fact("r", val(2), Y)), [(1,), ("a",)])
        self.assertEqual(rows_of(fact("r", val("a"), Y)), [(2,)])
        self.assertEqual(rows_of(fact("r", X, ANY)), [(1,), (2,), ("a",)])
        self.assertEqual(rows_of(fact("r", ANY, Y)), [(1,), (2,), ("a",)])
        self.assertEqual(rows_of(fact("r", X, X)), [(1,)])
        self.assertEqual(rows_of(fact("e", X, Y)), [])

    def test_a_number_and_its_digits_are_two_values(self):
        state = state_of({"s": [(1,), ("1",)]})
        self.assertEqual(answer(state, (fact("s", X), fact("s", X)))[1], [(1,), ("1",)])
        self.assertEqual(answer(state, (fact("s", val("1")), fact("s", X), cmp(X, "=", val(1))))[1], [(1,)])
        self.assertEqual(answer(state, (count("n", "s", val("1")),))[1], [(1,)])

    def test_bodies_that_bind_nothing(self):
        for body in ((), (fact("r", val(1), ANY),), (cmp(val(1), "<", val(2)),), (no("e", ANY, ANY),)):
            self.assertEqual(answer(STATE, body), ((), [()]))
        for body in ((fact("r", val(3), ANY),), (cmp(val(2), "<", val(1)),), (no("s", ANY),)):
            self.assertEqual(answer(STATE, body), ((), []))

    def test_a_variable_in_several_literals(self):
        self.assertEqual(rows_of(fact("s", X), fact("r", X, Y)), ROWS["r"])
        self.assertEqual(rows_of(fact("r", X, Y), fact("r", Y, Z)), [
            (1, 1, 1), (1, 1, 2), (1, 2, 1), (1, 2, "a"), (2, 1, 1), (2, 1, 2), (2, "a", 2), ("a", 2, 1),
            ("a", 2, "a"),
        ])
        self.assertEqual(rows_of(fact("r", X, Y), fact("r", Y, X)), [(1, 1), (1, 2), (2, 1), (2, "a"), ("a", 2)])
        self.assertEqual(rows_of(fact("s", X), fact("r", X, X)), [(1,)])

    def test_rows_in_their_order_each_once(self):
        state = state_of({"r": [(1, "b"), (2, -1), (3, 10), (4, 2), (5, "b"), (6, 10), (7, "B")]})
        self.assertEqual(answer(state, (fact("r", ANY, Y),))[1], [(-1,), (2,), (10,), ("B",), ("b",)])
        self.assertEqual(answer(state, (fact("r", X, Y), cmp(X, "<", val(3)), fact("r", Z, Y)))[1], [
            (1, "b", 1), (1, "b", 5), (2, -1, 2),
        ])
        told = answer(state, (fact("r", X, Y), count("n", "r", ANY, Y), fact("r", Z, ANY), cmp(Z, "=", val(1))))
        self.assertEqual([row[0] for row in told[1]], [1, 2, 3, 4, 5, 6, 7])

    def test_not(self):
        self.assertEqual(rows_of(fact("s", X), no("r", X, ANY)), [(3,)])
        self.assertEqual(rows_of(fact("s", X), no("r", X, val(1))), [(3,), ("a",)])
        self.assertEqual(rows_of(fact("s", X), no("r", X, X)), [(2,), (3,), ("a",)])
        self.assertEqual(rows_of(fact("s", X), fact("s", Y), no("r", X, Y), cmp(X, "=", Y)), [
            (2, 2), (3, 3), ("a", "a"),
        ])

    def test_compare_by_the_order_of_values(self):
        values = [-MOST, -10, -9, 0, 9, 10, MOST, "", "10", "9", "A", "a", "aa"]
        for (at, low), (place, high) in itertools.product(enumerate(values), repeat=2):
            holds = {"=": at == place, "<>": at != place, "<": at < place, "<=": at <= place, ">": at > place,
                     ">=": at >= place}
            for operator, told in holds.items():
                with self.subTest(low=low, operator=operator, high=high):
                    self.assertEqual(rows_of(cmp(val(low), operator, val(high))), [()] if told else [])

    def test_compare_of_variables(self):
        self.assertEqual(rows_of(fact("r", X, Y), cmp(X, "<", Y)), [(1, 2), (2, "a")])
        self.assertEqual(rows_of(fact("r", X, Y), cmp(X, ">", Y)), [(2, 1), ("a", 2)])
        self.assertEqual(rows_of(fact("r", X, Y), cmp(val(1), "=", Y), cmp(X, "<>", val(1))), [(2, 1)])

    def test_count(self):
        self.assertEqual(rows_of(count("n", "r", ANY, ANY)), [(5,)])
        self.assertEqual(rows_of(count("n", "r", X, Y)), [(5,)])
        self.assertEqual(rows_of(count("n", "r", X, X)), [(1,)])
        self.assertEqual(rows_of(count("n", "r", val(2), ANY)), [(2,)])
        self.assertEqual(rows_of(fact("s", X), count("n", "r", X, ANY)), [(1, 2), (2, 2), (3, 0), ("a", 1)])
        self.assertEqual(rows_of(count("n", "e", ANY, ANY)), [(0,)])

    def test_sum(self):
        self.assertEqual(rows_of(over("sum", "n", Y, "r", val(1), Y)), [(3,)])
        self.assertEqual(rows_of(over("sum", "n", X, "r", X, val(1))), [(3,)])
        self.assertEqual(rows_of(over("sum", "n", val(-4), "r", ANY, ANY)), [(-20,)])
        self.assertEqual(rows_of(fact("s", X), over("sum", "n", Y, "r", X, Y)), [(1, 3), (3, 0), ("a", 2)])

    def test_each_row_of_a_sum_counts(self):
        state = state_of({"r": [(1, 5), (2, 5), (3, 5)]})
        self.assertEqual(answer(state, (over("sum", "n", Y, "r", ANY, Y),)), (("n",), [(15,)]))

    def test_a_sum_with_a_string_does_not_hold(self):
        self.assertEqual(rows_of(over("sum", "n", Y, "r", val(2), Y)), [])
        self.assertEqual(rows_of(over("sum", "n", val("a"), "r", ANY, ANY)), [])
        self.assertEqual(rows_of(over("sum", "n", val("a"), "e", ANY, ANY)), [(0,)])
        self.assertEqual(rows_of(fact("s", X), over("sum", "n", X, "r", X, ANY)), [(1, 2), (2, 4), (3, 0)])

    def test_a_sum_may_be_beyond_the_bounds_of_values(self):
        state = state_of({"s": [(MOST,), (MOST - 1,)]})
        self.assertEqual(answer(state, (over("sum", "n", X, "s", X),))[1], [(2 * MOST - 1,)])
        self.assertEqual(answer(state, (over("sum", "n", X, "s", X), fact("s", Y), cmp(Y, "<", N)))[1], [
            (2 * MOST - 1, MOST - 1), (2 * MOST - 1, MOST),
        ])
        body = (over("sum", "n", X, "s", X), no("s", N))
        self.assertEqual(answer(state, body)[1], [(2 * MOST - 1,)])
        self.assertEqual(calls(state, body), [("s", (None,)), ("s", (2 * MOST - 1,))])

    def test_least_and_greatest(self):
        state = state_of({"r": [(1, 10), (1, 9), (1, "10"), (1, "9"), (2, -5), (2, -50)]})
        for word, one, two in (("least", 9, -50), ("greatest", "9", -5)):
            self.assertEqual(answer(state, (over(word, "n", Y, "r", val(1), Y),))[1], [(one,)])
            self.assertEqual(answer(state, (over(word, "n", Y, "r", val(2), Y),))[1], [(two,)])
            self.assertEqual(answer(state, (over(word, "n", val("k"), "r", ANY, Y),))[1], [("k",)])
        self.assertEqual(answer(state, (over("least", "n", X, "r", X, Y),))[1], [(1,)])
        self.assertEqual(answer(state, (over("greatest", "n", X, "r", X, Y),))[1], [(2,)])

    def test_least_of_zero_and_of_the_empty_string(self):
        state = state_of({"r": [(1, 0), (2, "")]})
        for word in ("least", "greatest"):
            self.assertEqual(answer(state, (over(word, "n", Y, "r", val(1), Y),))[1], [(0,)])
            self.assertEqual(answer(state, (over(word, "n", Y, "r", val(2), Y),))[1], [("",)])
            self.assertEqual(answer(state, (over(word, "n", val(0), "r", ANY, ANY),))[1], [(0,)])
        self.assertEqual(answer(state, (fact("r", X, Y), fact("r", X, Y)))[1], [(1, 0), (2, "")])
        self.assertEqual(calls(state, (fact("r", ANY, Y), no("s", Y))), [
            ("r", (None, None)), ("s", (0,)), ("s", ("",)),
        ])

    def test_totals_over_no_rows(self):
        self.assertEqual(rows_of(count("n", "r", val(9), ANY)), [(0,)])
        self.assertEqual(rows_of(over("sum", "n", Y, "r", val(9), Y)), [(0,)])
        for word in ("least", "greatest"):
            for term in (Y, val(1)):
                self.assertEqual(rows_of(over(word, "n", term, "r", val(9), Y)), [])

    def test_a_variable_that_is_bound_before_its_total(self):
        self.assertEqual(rows_of(fact("s", N), count("n", "r", val(1), ANY)), [(2,)])
        self.assertEqual(rows_of(fact("s", N), count("n", "r", ANY, ANY)), [])
        self.assertEqual(rows_of(fact("s", N), over("sum", "n", Y, "r", val(1), Y)), [(3,)])
        self.assertEqual(rows_of(fact("s", N), over("least", "n", Y, "r", val(1), Y)), [(1,)])
        self.assertEqual(rows_of(fact("s", N), over("greatest", "n", Y, "r", ANY, Y)), [("a",)])
        self.assertEqual(rows_of(fact("s", N), over("sum", "n", N, "r", val(9), ANY)), [])
        self.assertEqual(rows_of(fact("s", N), over("sum", "n", N, "r", val("a"), ANY)), [(1,), (2,), (3,)])
        self.assertEqual(rows_of(fact("s", N), over("greatest", "n", N, "r", ANY, ANY)), [(1,), (2,), (3,), ("a",)])

    def test_the_term_of_a_total_may_be_bound_outside_of_its_terms(self):
        self.assertEqual(rows_of(fact("s", X), over("sum", "n", X, "r", val(1), ANY)), [(1, 2), (2, 4), (3, 6)])
        self.assertEqual(rows_of(fact("s", X), over("least", "n", X, "r", ANY, ANY)), [
            (1, 1), (2, 2), (3, 3), ("a", "a"),
        ])

    def test_variables_of_a_total_stand_for_any_value_and_have_none_afterwards(self):
        self.assertEqual(rows_of(count("n", "s", X), fact("s", X)), [(4, 1), (4, 2), (4, 3), (4, "a")])
        self.assertEqual(rows_of(over("least", "n", X, "s", X), count("m", "r", X, Y)), [(1, 5)])

    def test_a_variable_twice_in_the_terms_of_a_total(self):
        self.assertEqual(rows_of(over("sum", "n", X, "r", X, X)), [(1,)])
        self.assertEqual(rows_of(over("greatest", "n", X, "r", X, X)), [(1,)])
        self.assertEqual(rows_of(fact("s", X), count("n", "r", X, X)), [(1, 1), (2, 0), (3, 0), ("a", 0)])

    def test_a_variable_three_times(self):
        state = State([("relation", "w", ("a", "b", "c"), 1)] + [
            ("fact", "w", row) for row in itertools.product((1, 2), repeat=3)
        ])
        self.assertEqual(answer(state, (fact("w", X, X, X),))[1], [(1,), (2,)])
        self.assertEqual(answer(state, (fact("w", X, Y, X),))[1], [(1, 1), (1, 2), (2, 1), (2, 2)])
        self.assertEqual(answer(state, (count("n", "w", X, X, Y),))[1], [(4,)])
        self.assertEqual(answer(state, (over("sum", "n", Y, "w", Y, X, Y),))[1], [(6,)])

    def test_two_thousand_ways(self):
        rows = [(number // 40, number) for number in range(44)]
        state = state_of({"r": rows})
        body = (fact("r", ANY, X), fact("r", ANY, Y), count("n", "r", ANY, X), cmp(X, "<", Y))
        self.assertEqual(len(answer(state, body)[1]), 44 * 43 // 2)
        self.assertEqual(len(calls(state, body)), 1 + 44 + 44 * 44)

    def test_refused(self):
        with self.assertRaises(Refused):
            answer(STATE, (fact("s", X), no("s", Y)))

    def test_nothing_is_modified_or_shared(self):
        state = state_of(ROWS)
        before = parts(state)
        body = (fact("r", X, Y), count("n", "r", X, ANY), no("e", X, Y))
        told = answer(state, body)
        told[1].clear()
        calls(state, body).clear()
        self.assertEqual(parts(state), before)
        self.assertEqual(len(answer(state, body)[1]), 5)


class CallsTest(unittest.TestCase):
    def test_patterns(self):
        cases = [
            ((), []),
            ((fact("r", X, Y),), [("r", (None, None))]),
            ((fact("r", X, X),), [("r", (None, None))]),
            ((fact("r", ANY, val(2)),), [("r", (None, 2))]),
            ((fact("r", val("a"), val(0)),), [("r", ("a", 0))]),
            ((no("r", val(7), ANY),), [("r", (7, None))]),
            ((count("n", "r", X, val(2)),), [("r", (None, 2))]),
            ((over("sum", "n", X, "r", X, ANY),), [("r", (None, None))]),
            ((over("least", "n", val(1), "e", X, X),), [("e", (None, None))]),
            ((over("greatest", "n", X, "s", X),), [("s", (None,))]),
            ((cmp(val(1), "=", val(1)),), []),
        ]
        for body, told in cases:
            with self.subTest(body=body):
                self.assertEqual(calls(STATE, body), told)

    def test_the_kinds_of_calls(self):
        told = calls(STATE, (fact("s", X), fact("r", X, Y)))
        self.assertIs(type(told), list)
        self.assertEqual({type(call) for call in told}, {tuple})
        self.assertEqual({type(call[1]) for call in told}, {tuple})

    def test_bound_variables_have_their_values(self):
        self.assertEqual(calls(STATE, (fact("s", X), fact("r", X, Y))), [
            ("s", (None,)), ("r", (1, None)), ("r", (2, None)), ("r", (3, None)), ("r", ("a", None)),
        ])
        self.assertEqual(calls(STATE, (fact("s", X), cmp(X, "=", val(2)), no("r", X, X))), [
            ("s", (None,)), ("r", (2, 2)),
        ])
        self.assertEqual(calls(STATE, (count("n", "r", val(1), ANY), fact("s", N))), [
            ("r", (1, None)), ("s", (2,)),
        ])

    def test_one_call_for_each_way_with_repetitions(self):
        self.assertEqual(calls(STATE, (fact("r", X, ANY), fact("s", X))), [
            ("r", (None, None)), ("s", (1,)), ("s", (1,)), ("s", (2,)), ("s", (2,)), ("s", ("a",)),
        ])
        self.assertEqual(calls(STATE, (fact("s", ANY), fact("e", ANY, ANY))), [("s", (None,))] + 4 * [
            ("e", (None, None)),
        ])

    def test_literal_by_literal_in_the_order_of_ways(self):
        self.assertEqual(calls(STATE, (fact("r", X, Y), fact("s", Y), fact("r", Y, Z), no("s", Z))), [
            ("r", (None, None)),
            ("s", (1,)), ("s", (2,)), ("s", (1,)), ("s", ("a",)), ("s", (2,)),
            ("r", (1, None)), ("r", (2, None)), ("r", (1, None)), ("r", ("a", None)), ("r", (2, None)),
            ("s", (1,)), ("s", (2,)), ("s", (1,)), ("s", ("a",)), ("s", (1,)), ("s", (2,)), ("s", (2,)),
            ("s", (1,)), ("s", ("a",)),
        ])

    def test_the_rows_of_earlier_literals_come_first(self):
        state = state_of({"r": [(1, "b"), (2, "a")], "s": [(5,), (6,)]})
        self.assertEqual(calls(state, (fact("r", ANY, X), fact("s", Y), no("e", X, Y))), [
            ("r", (None, None)), ("s", (None,)), ("s", (None,)),
            ("e", ("b", 5)), ("e", ("b", 6)), ("e", ("a", 5)), ("e", ("a", 6)),
        ])

    def test_no_further_calls_after_a_literal_that_does_not_hold(self):
        last = fact("s", ANY)
        for literal, own in [
            (fact("r", val(3), ANY), [("r", (3, None))]),
            (no("r", val(1), ANY), [("r", (1, None))]),
            (cmp(val(1), ">", val(2)), []),
            (over("least", "n", X, "e", X, ANY), [("e", (None, None))]),
            (over("sum", "n", Y, "r", val(2), Y), [("r", (2, None))]),
        ]:
            with self.subTest(literal=literal):
                self.assertEqual(calls(STATE, (literal, last)), own)
                self.assertEqual(calls(STATE, (literal, last, last)), own)
                self.assertEqual(calls(STATE, (last, literal, last)), [("s", (None,))] + own * 4)

    def test_a_way_that_fails_leaves_the_others(self):
        self.assertEqual(calls(STATE, (fact("s", X), no("r", X, val(1)), fact("e", X, X))), [
            ("s", (None,)), ("r", (1, 1)), ("r", (2, 1)), ("r", (3, 1)), ("r", ("a", 1)), ("e", (3, 3)),
            ("e", ("a", "a")),
        ])

    def test_the_variables_of_a_total_have_no_value_afterwards(self):
        self.assertEqual(calls(STATE, (count("n", "s", X), fact("r", X, N))), [("s", (None,)), ("r", (None, 4))])


class MeetsTest(unittest.TestCase):
    def test_values_at_their_places(self):
        for pattern, row, told in [
            ((1, 2), (1, 2), True), ((1, 2), (1, 3), False), ((1, 2), (0, 2), False), ((1, 2), (2, 1), False),
            ((None, 2), (1, 2), True), ((None, 2), (1, 1), False), ((1, None), (1, "x"), True),
            ((1, None), (2, "x"), False), ((None, None), ("", 0), True), (("",), ("",), True), ((0,), (0,), True),
            ((0,), (1,), False), (("",), ("a",), False), ((1,), ("1",), False), (("1",), (1,), False), ((), (), True),
        ]:
            with self.subTest(pattern=pattern, row=row):
                self.assertIs(meets(("r", pattern), row), told)

    def test_rows_of_other_lengths(self):
        for pattern in ((), (None,), (1,), (None, None), (1, 2), (1, None, 3)):
            for row in ((), (1,), (1, 2), (1, 2, 3), (1, 2, 3, 4)):
                with self.subTest(pattern=pattern, row=row):
                    self.assertIs(meets(("r", pattern), row), len(row) == len(pattern))


def met(terms, row, way):
    """The values of variables after some terms met a row, or None."""
    if len(terms) != len(row):
        return None
    way = dict(way)
    for term, value in zip(terms, row):
        if term[0] == "value" and term[1] != value:
            return None
        if term[0] == "variable" and way.setdefault(term[1], value) != value:
            return None
    return way


def total_told(literal, ways, way):
    """The value of a total over the ways in which its rows are met, or None."""
    if literal[0] == "count":
        return len(ways)
    term = literal[2]
    values = [term[1] if term[0] == "value" else one[term[1]] for one in ways]
    if literal[0] == "sum":
        return None if any(isinstance(value, str) for value in values) else sum(values)
    ordered = sorted(values, key=value_key)
    if not ordered:
        return None
    return ordered[0] if literal[0] == "least" else ordered[-1]


def run(facts, body, choice):
    """The way of a choice of rows for the facts of a body, or None if it does not hold."""
    way = {}
    rest = list(choice)
    for literal in body:
        if literal[0] == "fact":
            way = met(literal[2], rest.pop(0), way)
            if way is None:
                return None
        elif literal[0] == "compare":
            low, high = [value_key(term[1] if term[0] == "value" else way[term[1]]) for term in literal[2:]]
            if not {"=": low == high, "<>": low != high, "<": low < high, "<=": low <= high, ">": low > high,
                    ">=": low >= high}[literal[1]]:
                return None
        else:
            ways = [met(literal[-1], row, way) for row in facts.get(literal[-2], [])]
            ways = [one for one in ways if one is not None]
            if literal[0] == "not":
                if ways:
                    return None
                continue
            value = total_told(literal, ways, way)
            if value is None or way.setdefault(literal[1], value) != value:
                return None
    return way


def ways_of(facts, body):
    """The ways of a body by choices of rows, in their order."""
    lists = [facts.get(literal[1], []) for literal in body if literal[0] == "fact"]
    ways = [run(facts, body, choice) for choice in itertools.product(*lists)]
    return [way for way in ways if way is not None]


def calls_of(facts, body):
    """The calls of a body by the words of point 12."""
    told = []
    for at, literal in enumerate(body):
        if literal[0] != "compare":
            for way in ways_of(facts, body[:at]):
                pattern = tuple(
                    term[1] if term[0] == "value" else way.get(term[1]) if term[0] == "variable" else None
                    for term in literal[-1]
                )
                told.append((literal[-2], pattern))
    return told


WIDTHS = {"r": 2, "s": 1, "w": 3}
VALUES = [0, 1, 2, "", "a"]


def some_rows(draw, width, many):
    return [tuple(draw.choice(VALUES) for _ in range(width)) for _ in range(many)]


def some_term(draw, names):
    kind = draw.randrange(8)
    if kind == 0:
        return ANY
    if kind == 1:
        return val(draw.choice(VALUES))
    return var(draw.choice(names))


def some_literal(draw):
    """A literal, often one that does not check."""
    names = ["x", "y", "z"]
    word = draw.choice(["fact", "fact", "fact", "not", "compare", "count", "sum", "least", "greatest"])
    if word == "compare":
        operator = draw.choice(["=", "<>", "<", "<=", ">", ">="])
        return (word, operator, some_term(draw, names), some_term(draw, names))
    relation = draw.choice(sorted(WIDTHS))
    terms = tuple(some_term(draw, names) for _ in range(WIDTHS[relation]))
    if word in ("fact", "not"):
        return (word, relation, terms)
    variable = draw.choice(["n", "m", "x"])
    if word == "count":
        return (word, variable, relation, terms)
    return (word, variable, some_term(draw, names + ["n"]), relation, terms)


def some_body(draw, state):
    """A body that checks, with at most three facts."""
    body = ()
    wanted = draw.randrange(1, 6)
    while len(body) < wanted:
        longer = body + (some_literal(draw),)
        try:
            check(state, longer)
        except Refused:
            continue
        if sum(literal[0] == "fact" for literal in longer) <= 3:
            body = longer
    return body


def some_state(draw):
    items = [("relation", name, ("a", "b", "c")[:width], 5) for name, width in WIDTHS.items()]
    for name, width in WIDTHS.items():
        items += [("fact", name, row) for row in some_rows(draw, width, draw.randrange(6))]
    return State(items)


class ModelTest(unittest.TestCase):
    """Bodies as they come, by the words of points 10 to 13 alone."""

    def test_answers_and_calls(self):
        draw = random.Random(7)
        held = 0
        for _ in range(4000):
            state = some_state(draw)
            body = some_body(draw, state)
            columns, rows = answer(state, body)
            ways = ways_of(state.facts, body)
            with self.subTest(facts=state.facts, body=body):
                self.assertEqual(columns, check(state, body))
                wanted = {tuple(way[name] for name in columns) for way in ways}
                self.assertEqual(rows, sorted(wanted, key=row_key))
                self.assertEqual(calls(state, body), calls_of(state.facts, body))
            held += len(rows) > 1
        self.assertGreater(held, 300)

    def test_facts_that_meet_no_call_change_nothing(self):
        draw = random.Random(8)
        for _ in range(600):
            state = some_state(draw)
            body = some_body(draw, state)
            told = calls(state, body)
            items = [item for item in state.all_items() if item[0] == "relation"]
            for name in sorted(WIDTHS):
                asked = [call for call in told if call[0] == name]
                kept = [row for row in state.facts[name] if any(meets(call, row) for call in asked)]
                others = [row for width in range(5) for row in some_rows(draw, width, 3)]
                kept += [row for row in others if not any(meets(call, row) for call in asked)]
                items += [("fact", name, row) for row in kept]
            other = State(items)
            with self.subTest(facts=state.facts, others=other.facts, body=body):
                self.assertEqual(answer(other, body), answer(state, body))
                self.assertEqual(calls(other, body), told)

    def test_rows_of_other_lengths_are_met_by_no_terms(self):
        rows = [(), (1,), (1, 1, 1), (2, 2, 2)]
        other = state_of({"r": ROWS["r"] + rows, "s": ROWS["s"] + [(), (1, 1)]})
        for body in [
            (fact("r", X, Y),), (count("n", "r", ANY, ANY),), (count("n", "s", ANY),), (fact("s", X), no("r", X, X)),
            (over("sum", "n", X, "r", X, val(1)),), (fact("r", X, X),),
        ]:
            with self.subTest(body=body):
                self.assertEqual(answer(other, body), answer(STATE, body))
                self.assertEqual(calls(other, body), calls(STATE, body))


if __name__ == "__main__":
    unittest.main()
