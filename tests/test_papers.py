"""Tests of papers and their judge (point 30, and 3 for it)."""

import unittest

import helper
from turnshelves.papers import judge
from turnshelves.policy import Policy

MOST = 10 ** 12

# The paper of the example of the policy.
PAPER = (0, (0, 4), ((0, 4), (4, 0)), ((3, 0), (3, 0)), ((0, 4), (6, 4), (8, 4)), (1, 1), 4)
NAMES = ("start", "stands", "ways", "tasks", "work", "row", "spent")


def with_part(paper, **parts):
    """A paper with other parts."""
    return tuple(parts.get(name, part) for name, part in zip(NAMES, paper))


def put(table, value, *at):
    """A tuple of tuples with another value at a place."""
    if not at:
        return value
    first, *rest = at
    return table[:first] + (put(table[first], value, *rest),) + table[first + 1:]


def flat(many, tasks=0, start=0):
    """A paper with so many layouts that all ways join for nothing."""
    row = (0,) * many
    return (start, row, (row,) * many, (row,) * tasks, (row,) * (tasks + 1), (0,) * tasks, 0)


class Base(unittest.TestCase):
    def takes(self, paper, spent):
        with self.subTest(paper=paper):
            told = judge(paper)
            self.assertEqual(told, spent)
            self.assertIs(type(told), int)

    def refuses(self, paper):
        with self.subTest(paper=paper):
            self.assertIsNone(judge(paper))


class FormTest(Base):
    def test_the_example(self):
        self.takes(PAPER, 4)

    def test_no_tasks(self):
        self.takes((0, (0,), ((0,),), (), ((0,),), (), 0), 0)
        self.takes((1, (0, 4), ((0, 4), (4, 0)), (), ((4, 0),), (), 0), 0)
        self.refuses((1, (0, 4), ((0, 4), (4, 0)), (), ((4, 0),), (), 1))

    def test_other_values(self):
        for value in [
            None, True, False, 0, 1, -1, 4, "", "paper", b"", b"1234567", (), [], {}, set(), frozenset(), 1.5, 2j,
            object(),
            object, judge, range(7), iter(()), (0,) * 7, [0] * 7, "0000000", ((),) * 7, (None,) * 7, {1: 2}, Ellipsis,
            float("nan"), NotImplemented, ValueError("x"),
        ]:
            self.refuses(value)

    def test_lists_in_the_place_of_tuples(self):
        self.refuses(list(PAPER))
        for at in range(1, 6):
            self.refuses(put(PAPER, list(PAPER[at]), at))
        for at in (2, 3, 4):
            for number in range(len(PAPER[at])):
                self.refuses(put(PAPER, list(PAPER[at][number]), at, number))

    def test_other_lengths(self):
        self.refuses(PAPER[:-1])
        self.refuses(PAPER[1:])
        self.refuses(PAPER + (0,))
        self.refuses(())
        for at in range(1, 6):
            self.refuses(put(PAPER, PAPER[at][:-1], at))
            self.refuses(put(PAPER, PAPER[at] + PAPER[at][-1:], at))
            self.refuses(put(PAPER, (), at))
        for at in (2, 3, 4):
            for number in range(len(PAPER[at])):
                row = PAPER[at][number]
                for other in (row[:-1], row + (0,), row + row[-1:], ()):
                    self.refuses(put(PAPER, other, at, number))

    def places(self):
        """All places of numbers in the example."""
        told = [(0,), (6,)] + [(at, number) for at in (1, 5) for number in range(2)]
        for at in (2, 3, 4):
            told += [(at, row, number) for row in range(len(PAPER[at])) for number in range(2)]
        return told

    def test_booleans_and_other_kinds_in_the_place_of_each_number(self):
        for place in self.places():
            number = PAPER
            for at in place:
                number = number[at]
            for value in [
                bool(number), not number, None, float(number), complex(number), str(number), (number,), [number], (),
                [],
                "", b"", object(), {}, -1, -MOST, MOST + 1, 10 ** 30, float("nan"), float("inf"),
            ]:
                self.refuses(put(PAPER, value, *place))

    def test_other_kinds_in_the_place_of_parts(self):
        for at in range(7):
            for value in [None, "", "abc", b"ab", {}, {0: 1}, set(), 1.5, object(), range(2), True, -1]:
                self.refuses(put(PAPER, value, at))
        for at in (2, 3, 4):
            for value in [None, 0, "ab", b"ab", {0: 1, 1: 2}, {0, 1}, range(2)]:
                self.refuses(put(PAPER, value, at, 1))

    def test_the_limits_of_numbers(self):
        # A work may be less than it could be, if what is spent is the least still.
        self.takes((0, (MOST,), ((0,),), ((MOST // 2,),), ((0,), (MOST,)), (0,), MOST // 2), MOST // 2)
        self.refuses((0, (MOST,), ((0,),), ((MOST // 2 + 1,),), ((0,), (MOST + 2,)), (0,), MOST // 2 + 1))
        self.refuses((0, (MOST + 1,), ((0,),), ((1,),), ((0,), (2,)), (0,), 1))
        self.takes((0, (0, MOST), ((0, MOST), (MOST, 0)), (), ((0, MOST),), (), 0), 0)
        self.refuses((0, (0, MOST + 2), ((0, MOST + 2), (MOST + 2, 0)), (), ((0, MOST),), (), 0))
        self.refuses((0, (0, 0), ((0, MOST + 2), (MOST + 2, 0)), (), ((0, MOST),), (), 0))
        self.refuses((0, (0, 0), ((0, 2), (2, 0)), ((0, MOST + 1),), ((0, 2), (0, 2)), (0,), 0))
        self.takes((0, (0, 0), ((0, 2), (2, 0)), ((0, MOST),), ((0, 2), (0, 2)), (0,), 0), 0)

    def test_numbers_of_layouts(self):
        for many in (1, 2, 15, 16):
            self.takes(flat(many), 0)
            self.takes(flat(many, 3, many - 1), 0)
            self.refuses(flat(many, 3, many))
        for many in (0, 17, 18, 40):
            self.refuses(flat(many))
            self.refuses(flat(many, 3))

    def test_numbers_of_tasks(self):
        for tasks in (0, 1, 999, 1000):
            self.takes(flat(2, tasks), 0)
        for tasks in (1001, 1002, 3000):
            self.assertIsNone(judge(flat(2, tasks)))

    def test_starts_and_rows_beyond_the_layouts(self):
        for start in (2, 3, MOST):
            self.refuses(with_part(PAPER, start=start))
        for place in range(2):
            for value in (2, 3, 16, MOST):
                self.refuses(with_part(PAPER, row=put(PAPER[5], value, place)))


class WaysTest(Base):
    def test_a_way_from_a_layout_to_itself(self):
        self.takes(flat(3, 2), 0)
        for place in range(3):
            for number in (2, 1, MOST):
                self.refuses(put(flat(3, 2), number, 2, place, place))

    def test_an_odd_way(self):
        # Ways that are too long for anything to gain by them.
        for one in range(2):
            for number in (5, 7, 9):
                self.refuses(put(PAPER, number, 2, one, 1 - one))
        self.takes(put(PAPER, 6, 2, 1, 0), 4)

    def test_an_odd_height(self):
        self.takes((0, (3, 3), ((0, 0), (0, 0)), (), ((0, 0),), (), 0), 0)
        self.refuses((0, (2, 3), ((0, 2), (2, 0)), (), ((0, 2),), (), 0))
        self.takes((0, (2, 3), ((0, 3), (3, 0)), (), ((0, 3),), (), 0), 0)
        self.refuses((0, (2, 3), ((0, 3), (4, 0)), (), ((0, 3),), (), 0))
        self.refuses((0, (2, 3), ((0, 4), (3, 0)), (), ((0, 3),), (), 0))

    def test_going_that_would_cost_less_than_nothing(self):
        # From the second to the first it is way + 0 - 4.
        self.takes((0, (0, 4), ((0, 4), (4, 0)), (), ((0, 4),), (), 0), 0)
        self.refuses((0, (0, 4), ((0, 4), (2, 0)), (), ((0, 4),), (), 0))
        self.refuses((0, (0, 4), ((0, 4), (0, 0)), (), ((0, 4),), (), 0))
        self.refuses((0, (4, 0), ((0, 2), (4, 0)), (), ((0, 2),), (), 0))


class WorkTest(Base):
    def test_less_work_is_taken_while_the_plan_is_the_least(self):
        # Only the end of the layout 1 is as little as what is spent needs.
        self.takes(with_part(PAPER, work=((0, 4), (6, 4), (8, 4))), 4)
        self.takes(with_part(PAPER, work=((0, 4), (5, 4), (8, 4))), 4)
        self.takes(with_part(PAPER, work=((0, 4), (4, 4), (8, 4))), 4)
        self.refuses(with_part(PAPER, work=((0, 4), (6, 4), (7, 4))))
        self.refuses(with_part(PAPER, work=((0, 4), (6, 4), (8, 3))))

    def test_work_at_the_beginning(self):
        self.takes(PAPER, 4)
        self.refuses(put(PAPER, 1, 4, 0, 0))
        self.refuses(put(PAPER, 5, 4, 0, 1))
        paper = flat(3)
        for place in range(3):
            self.refuses(put(paper, 1, 4, 0, place))
        # The ways are those from the start, not those to it.
        ways = ((0, 2), (6, 0))
        self.takes((0, (0, 0), ways, (), ((0, 2),), (), 0), 0)
        self.refuses((0, (0, 0), ways, (), ((0, 3),), (), 0))
        self.refuses((0, (0, 0), ways, (), ((0, 6),), (), 0))
        self.takes((1, (0, 0), ways, (), ((6, 0),), (), 0), 0)
        self.refuses((1, (0, 0), ways, (), ((7, 0),), (), 0))

    def test_a_work_that_is_one_greater(self):
        for at in range(3):
            for place in range(2):
                self.refuses(put(PAPER, PAPER[4][at][place] + 1, 4, at, place))

    def test_each_work_of_drawn_papers(self):
        draw = helper.drawing(1)
        for _ in range(25):
            paper = drawn_paper(draw, draw.randrange(1, 4), draw.randrange(6))
            self.takes(paper, paper[6])
            for at, works in enumerate(paper[4]):
                for place, work in enumerate(works):
                    self.refuses(put(paper, work + 1, 4, at, place))

    def test_works_bound_each_other_by_each_way(self):
        # Three layouts: the second work of the last is bound by each of the three.
        ways = ((0, 2, 4), (6, 0, 8), (10, 12, 0))
        for task, bound in [((0, 9, 9), 4), ((9, 0, 9), 10), ((9, 9, 1), 6)]:
            works = ((0, 2, 4), (0, 0, bound))
            self.assertEqual(self.bounded(ways, task, works[0])[2], bound)
            least = tuple(self.bounded(ways, task, works[0]))
            spent = min(least) // 2
            paper = (0, (0, 0, 0), ways, (task,), (works[0], least), self.plan(ways, task, spent), spent)
            self.takes(paper, spent)
            self.refuses(put(paper, bound + 1, 4, 1, 2))

    def bounded(self, ways, task, work):
        return [min(work[x] + 2 * task[x] + ways[x][s] for x in range(3)) for s in range(3)]

    def plan(self, ways, task, spent):
        return ([place for place in range(3) if ways[0][place] // 2 + task[place] == spent][0],)


def drawn_paper(draw, many, length):
    costs = [draw.choice([1, 2, 3, 5]) for _ in range(3)]
    layouts = [draw.sample(range(3), draw.randrange(4)) for _ in range(many)]
    stands = [sum(costs[part] for part in layout) for layout in layouts]
    ways = [[sum(costs[part] for part in set(one) ^ set(other)) for other in layouts] for one in layouts]
    policy = Policy(draw.randrange(many), stands, ways)
    for _ in range(length):
        policy.serve([draw.randrange(5) for _ in range(many)])
    return policy.paper()


class PlanTest(Base):
    def test_what_the_plan_spends(self):
        for spent in (0, 3, 5, 6, 8, MOST):
            self.refuses(with_part(PAPER, spent=spent))
        # These plans spend more than 4, and it is not hidden.
        for row, spent in [((0, 0), 6), ((0, 1), 7), ((1, 0), 7)]:
            self.refuses(with_part(PAPER, row=row, spent=spent))
            self.refuses(with_part(PAPER, row=row))

    def test_going_from_the_start_counts(self):
        # Behind another start the first going costs nothing.
        self.takes((1, (0, 4), ((0, 4), (4, 0)), ((3, 0),), ((4, 0), (4, 0)), (1,), 0), 0)
        self.refuses((1, (0, 4), ((0, 4), (4, 0)), ((3, 0),), ((4, 0), (4, 0)), (1,), 4))
        self.refuses((0, (0, 4), ((0, 4), (4, 0)), ((3, 0),), ((0, 4), (6, 4)), (1,), 0))

    def test_equal_plans(self):
        paper = (0, (0, 4), ((0, 4), (4, 0)), ((4, 0),), ((0, 4), (8, 4)), (0,), 4)
        self.takes(paper, 4)
        self.takes(with_part(paper, row=(1,)), 4)
        for spent in (3, 5):
            self.refuses(with_part(paper, spent=spent))

    def test_the_bound_at_the_end_for_each_layout(self):
        # 2 * 4 + 0 against 8 + 0 and 4 + 4.
        for place in range(2):
            self.refuses(put(PAPER, PAPER[4][2][place] - 1, 4, 2, place))

    def test_a_plan_that_is_not_the_cheapest(self):
        draw = helper.drawing(2)
        refused = 0
        for _ in range(60):
            paper = drawn_paper(draw, 3, 3)
            for row in [(a, b, c) for a in range(3) for b in range(3) for c in range(3)]:
                spent = self.spends(paper, row)
                if spent == paper[6]:
                    self.takes(with_part(paper, row=row), spent)
                else:
                    self.assertGreater(spent, paper[6])
                    self.refuses(with_part(paper, row=row, spent=spent))
                    self.refuses(with_part(paper, row=row))
                    refused += 1
        self.assertGreater(refused, 300)

    def spends(self, paper, row):
        place, _, ways, tasks, _, _, _ = paper
        twice = 0
        for task, chosen in zip(tasks, row):
            twice += ways[place][chosen] + paper[1][chosen] - paper[1][place] + 2 * task[chosen]
            place = chosen
        return twice // 2

    def test_nothing_is_modified(self):
        rows = [3, 0]
        paper = with_part(PAPER, tasks=(rows, rows))
        self.refuses(paper)
        self.assertEqual(rows, [3, 0])


class AnythingTest(Base):
    def test_drawn_changes_of_papers(self):
        draw = helper.drawing(3)
        values = [None, True, False, 0, 1, 2, 3, -1, MOST, MOST + 1, "", "a", (), [], (0,), (0, 4), [0, 4],
            ((0, 4),), 1.0]
        taken = 0
        for _ in range(4000):
            value = PAPER
            for _ in range(draw.randrange(1, 3)):
                value = self.changed(draw, value, draw.choice(values))
            told = judge(value)
            self.assertTrue(told is None or type(told) is int)
            taken += told is not None
        self.assertGreater(taken, 10)

    def changed(self, draw, value, other):
        """A value with another one at some depth."""
        if not isinstance(value, tuple) or not value or draw.randrange(5) == 0:
            return other
        at = draw.randrange(len(value))
        if draw.randrange(8) == 0:
            return value[:at] + value[at + 1:]
        if draw.randrange(8) == 0:
            return value[:at] + (other,) + value[at:]
        return value[:at] + (self.changed(draw, value[at], other),) + value[at + 1:]


if __name__ == "__main__":
    unittest.main()
