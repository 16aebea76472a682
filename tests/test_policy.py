"""Tests of the policy (points 25 to 29, the paper of point 30, and 3 for them)."""

import itertools
import unittest

import helper
from turnshelves.costs import stands, way
from turnshelves.papers import judge
from turnshelves.policy import Policy
from turnshelves.states import State


def going(numbers, ways, first, second):
    """What going costs, by point 25."""
    twice = ways[first][second] + numbers[second] - numbers[first]
    assert twice % 2 == 0
    return twice // 2


def spending(start, numbers, ways, tasks, plan):
    """What a plan spends, by point 25."""
    total, place = 0, start
    for task, chosen in zip(tasks, plan):
        total += going(numbers, ways, place, chosen) + task[chosen]
        place = chosen
    return total


def cheapest(start, numbers, ways, tasks):
    """The least that any plan spends, and all plans that spend so much."""
    plans = list(itertools.product(range(len(numbers)), repeat=len(tasks)))
    amounts = [spending(start, numbers, ways, tasks, plan) for plan in plans]
    return min(amounts), [list(plan) for plan, amount in zip(plans, amounts) if amount == min(amounts)]


def slow_works(start, ways, tasks):
    """The works before each task and after all, by point 26."""
    many = range(len(ways))
    works = [[ways[start][place] for place in many]]
    for task in tasks:
        works.append([min(works[-1][x] + 2 * task[x] + ways[x][s] for x in many) for s in many])
    return works


def slow_served(start, ways, tasks):
    """The layouts on which tasks are served, by point 27."""
    works = slow_works(start, ways, tasks)
    lies, served = start, []
    for work, task in zip(works, tasks):
        sums = [work[place] + 2 * task[place] + ways[place][lies] for place in range(len(ways))]
        if min(sums) < sums[lies]:
            lies = sums.index(min(sums))
        served.append(lies)
    return served


def drawn_ways(draw, many):
    """What stands of some sets of structures, and the ways between them."""
    costs = [draw.choice([1, 2, 3, 5, 8]) for _ in range(4)]
    layouts = [draw.sample(range(4), draw.randrange(5)) for _ in range(many)]
    numbers = [sum(costs[part] for part in layout) for layout in layouts]
    ways = [[sum(costs[part] for part in set(one) ^ set(other)) for other in layouts] for one in layouts]
    return numbers, ways


def drawn_tasks(draw, many, length, most=6):
    tasks = []
    for _ in range(length):
        task = [draw.randrange(most) for _ in range(many)]
        least = min(task)
        tasks.append([number - least for number in task])
    return tasks


TWO = ([0, 4], [[0, 4], [4, 0]])


class ServeTest(unittest.TestCase):
    def test_the_example(self):
        policy = Policy(0, [0, 4], [[0, 4], [4, 0]])
        self.assertEqual([policy.serve([3, 0]), policy.serve([3, 0])], [0, 1])
        self.assertEqual(policy.works, [[0, 4], [6, 4], [8, 4]])
        self.assertEqual(policy.spent, 7)
        self.assertEqual(policy.hindsight(), (4, [1, 1]))
        self.assertEqual(policy.now, 1)
        self.assertEqual(policy.tasks, [[3, 0], [3, 0]])

    def test_without_tasks(self):
        policy = Policy(1, [0, 4, 6], [[0, 4, 6], [4, 0, 10], [6, 10, 0]])
        self.assertEqual((policy.now, policy.spent, policy.tasks), (1, 0, []))
        self.assertEqual(policy.works, [[4, 0, 10]])
        self.assertEqual(policy.hindsight(), (0, []))
        self.assertEqual(policy.paper(), (1, (0, 4, 6), ((0, 4, 6), (4, 0, 10), (6, 10, 0)), (), ((4, 0, 10),), (), 0))
        self.assertEqual(judge(policy.paper()), 0)

    def test_works_begin_with_the_ways_from_the_start(self):
        # These ways differ by direction, so that the row is told from the column.
        policy = Policy(1, [0, 0, 0], [[0, 2, 4], [6, 0, 8], [10, 12, 0]])
        self.assertEqual(policy.works, [[6, 0, 8]])
        policy = Policy(2, [0, 0, 0], [[0, 2, 4], [6, 0, 8], [10, 12, 0]])
        self.assertEqual(policy.works, [[10, 12, 0]])

    def test_ways_that_differ_by_direction(self):
        ways = [[0, 2, 4], [6, 0, 8], [10, 12, 0]]
        policy = Policy(0, [0, 0, 0], ways)
        policy.serve([5, 0, 3])
        # From x to s: of 0 are 0 + 10 + (0, 2, 4), of 1 are 2 + 0 + (6, 0, 8), of 2 are 4 + 6 + (10, 12, 0).
        self.assertEqual(policy.works[1], [8, 2, 10])
        # To the layout 0 that lies: 0 + 10 + 0, 2 + 0 + 6, 4 + 6 + 10.
        self.assertEqual(policy.now, 1)
        self.assertEqual(policy.spent, 1)

    def test_one_layout_alone(self):
        policy = Policy(0, [7], [[0]])
        self.assertEqual([policy.serve([0]), policy.serve([5])], [0, 0])
        self.assertEqual((policy.works, policy.spent, policy.now), ([[0], [0], [10]], 5, 0))
        self.assertEqual(policy.hindsight(), (5, [0, 0]))
        self.assertEqual(judge(policy.paper()), 5)

    def test_it_stays_though_another_sum_is_equal(self):
        # The sums are 2 * 4 and 4 + 4.
        policy = Policy(0, *TWO)
        self.assertEqual(policy.serve([4, 0]), 0)
        self.assertEqual(policy.spent, 4)
        policy = Policy(1, *TWO)
        self.assertEqual(policy.serve([0, 4]), 1)
        policy = Policy(1, [0, 0], [[0, 0], [0, 0]])
        self.assertEqual(policy.serve([0, 0]), 1)

    def test_it_goes_if_another_sum_is_less(self):
        policy = Policy(0, *TWO)
        self.assertEqual(policy.serve([5, 0]), 1)
        self.assertEqual((policy.spent, policy.now), (4, 1))
        # Going back costs nothing here.
        policy = Policy(1, *TWO)
        self.assertEqual(policy.serve([0, 5]), 0)
        self.assertEqual((policy.spent, policy.now), (0, 0))

    def test_it_goes_to_the_first_of_several(self):
        ways = [[0, 2, 2, 2], [2, 0, 4, 4], [2, 4, 0, 4], [2, 4, 4, 0]]
        for task, chosen in [
            ([9, 1, 0, 0], 2), ([9, 0, 0, 0], 1), ([9, 1, 1, 0], 3), ([9, 1, 1, 1], 1), ([2, 0, 0, 0], 0),
            ([3, 0, 0, 0], 1), ([3, 1, 1, 1], 0), ([4, 1, 2, 1], 1), ([4, 2, 2, 1], 3),
        ]:
            policy = Policy(0, [0, 2, 2, 2], ways)
            with self.subTest(task=task):
                self.assertEqual(policy.serve(task), chosen)
                self.assertEqual(policy.spent, task[chosen] + (2 if chosen else 0))

    def test_it_is_served_where_it_went(self):
        ways = [[0, 2], [2, 0]]
        policy = Policy(0, [0, 2], ways)
        self.assertEqual(policy.serve([9, 3]), 1)
        self.assertEqual(policy.spent, 2 + 3)

    def test_the_works_before_the_task_decide(self):
        # Behind the first task the sums are those of the works before the second one.
        policy = Policy(0, *TWO)
        served = [policy.serve([1, 0]) for _ in range(12)]
        self.assertEqual(served, slow_served(0, TWO[1], [[1, 0]] * 12))
        self.assertEqual(served, [0, 0, 0, 0] + [1] * 8)

    def test_serve_returns_where_it_lies(self):
        draw = helper.drawing(1)
        numbers, ways = drawn_ways(draw, 4)
        policy = Policy(2, numbers, ways)
        for task in drawn_tasks(draw, 4, 30):
            self.assertEqual(policy.serve(task), policy.now)

    def test_drawn_tasks(self):
        draw = helper.drawing(2)
        moves = 0
        for _ in range(60):
            many = draw.randrange(1, 6)
            numbers, ways = drawn_ways(draw, many)
            start = draw.randrange(many)
            tasks = drawn_tasks(draw, many, draw.randrange(25))
            policy = Policy(start, numbers, ways)
            served = [policy.serve(task) for task in tasks]
            self.assertEqual(served, slow_served(start, ways, tasks))
            self.assertEqual(policy.works, slow_works(start, ways, tasks))
            self.assertEqual(policy.spent, spending(start, numbers, ways, tasks, served))
            self.assertEqual(policy.tasks, tasks)
            self.assertEqual(policy.now, served[-1] if served else start)
            moves += sum(one != other for one, other in zip([start] + served, served))
        self.assertGreater(moves, 60)


class HindsightTest(unittest.TestCase):
    def test_against_all_plans(self):
        draw = helper.drawing(4)
        several = 0
        for _ in range(150):
            many = draw.randrange(1, 5)
            numbers, ways = drawn_ways(draw, many)
            start = draw.randrange(many)
            tasks = drawn_tasks(draw, many, draw.randrange(1, 6), draw.choice([2, 6, 12]))
            policy = Policy(start, numbers, ways)
            for task in tasks:
                policy.serve(task)
            amount, plans = cheapest(start, numbers, ways, tasks)
            told = policy.hindsight()
            self.assertIs(type(told), tuple)
            self.assertEqual(told[0], amount)
            self.assertIn(told[1], plans)
            self.assertEqual(told[1], self.backwards(numbers, ways, policy.works, tasks))
            several += len(plans) > 1
        self.assertGreater(several, 10)

    def backwards(self, numbers, ways, works, tasks):
        """The plan of point 28."""
        many = range(len(numbers))
        ends = [works[-1][place] + numbers[place] for place in many]
        place, plan = ends.index(min(ends)), []
        for work, task in list(zip(works, tasks))[::-1]:
            sums = [work[x] + 2 * task[x] + ways[x][place] for x in many]
            place = sums.index(min(sums))
            plan.insert(0, place)
        return plan

    def test_the_first_of_several_plans(self):
        ways = [[0, 0, 0], [0, 0, 0], [0, 0, 0]]
        policy = Policy(2, [0, 0, 0], ways)
        for task in ([1, 0, 0], [0, 0, 1], [3, 0, 0]):
            policy.serve(task)
        self.assertEqual(policy.hindsight(), (0, [1, 0, 1]))

    def test_what_stands_counts_at_the_end_and_at_the_start(self):
        # The plan that stays pays nothing for what stands already.
        policy = Policy(1, *TWO)
        for task in ([1, 0], [1, 0], [0, 1]):
            policy.serve(task)
        self.assertEqual(policy.hindsight(), (0, [1, 1, 0]))
        policy = Policy(0, *TWO)
        for task in ([5, 0], [0, 5]):
            policy.serve(task)
        self.assertEqual(policy.hindsight(), (4, [1, 0]))

    def test_it_changes_nothing(self):
        policy = Policy(0, *TWO)
        policy.serve([3, 0])
        kept = (policy.now, policy.spent, [list(task) for task in policy.tasks], [list(row) for row in policy.works])
        self.assertEqual(policy.hindsight(), policy.hindsight())
        self.assertEqual(policy.paper(), policy.paper())
        self.assertEqual((policy.now, policy.spent, policy.tasks, policy.works), kept)
        self.assertEqual(policy.serve([3, 0]), 1)


class SharingTest(unittest.TestCase):
    def test_lists_that_were_passed(self):
        numbers, ways, task = [0, 4], [[0, 4], [4, 0]], [3, 0]
        policy = Policy(0, numbers, ways)
        policy.serve(task)
        self.assertEqual((numbers, ways, task), ([0, 4], [[0, 4], [4, 0]], [3, 0]))
        numbers[1] = 100
        ways[0][1] = 100
        ways[1].clear()
        ways.append([])
        task[0] = 100
        self.assertEqual(policy.tasks, [[3, 0]])
        self.assertEqual(policy.works, [[0, 4], [6, 4]])
        self.assertEqual(policy.serve([3, 0]), 1)
        self.assertEqual(policy.works, [[0, 4], [6, 4], [8, 4]])
        self.assertEqual(policy.hindsight(), (4, [1, 1]))
        self.assertEqual(policy.spent, 7)
        self.assertEqual(judge(policy.paper()), 4)

    def test_the_row_of_ways_is_not_the_first_work(self):
        ways = [[0, 4], [4, 0]]
        policy = Policy(0, [0, 4], ways)
        policy.works[0][1] = 77
        self.assertEqual(ways, [[0, 4], [4, 0]])
        self.assertEqual(policy.paper()[2], ((0, 4), (4, 0)))

    def test_lists_that_were_returned(self):
        policy = Policy(0, *TWO)
        policy.serve([3, 0])
        policy.serve([3, 0])
        policy.hindsight()[1].clear()
        self.assertEqual(policy.hindsight(), (4, [1, 1]))

    def test_two_policies_share_nothing(self):
        one, other = Policy(0, *TWO), Policy(0, *TWO)
        one.serve([9, 0])
        self.assertEqual((other.tasks, other.works, other.spent, other.now), ([], [[0, 4]], 0, 0))


class PaperTest(unittest.TestCase):
    def test_bytes_of_the_example(self):
        policy = Policy(0, *TWO)
        policy.serve([3, 0])
        policy.serve([3, 0])
        self.assertEqual(policy.paper(), (
            0, (0, 4), ((0, 4), (4, 0)), ((3, 0), (3, 0)), ((0, 4), (6, 4), (8, 4)), (1, 1), 4,
        ))

    def test_everything_is_a_tuple(self):
        policy = Policy(0, *TWO)
        policy.serve([3, 0])
        paper = policy.paper()
        for part in (paper, paper[1], paper[2], paper[2][0], paper[3], paper[3][0], paper[4], paper[4][0], paper[5]):
            self.assertIs(type(part), tuple)

    def test_drawn_papers_are_taken(self):
        draw = helper.drawing(5)
        for _ in range(60):
            many = draw.randrange(1, 7)
            numbers, ways = drawn_ways(draw, many)
            start = draw.randrange(many)
            policy = Policy(start, numbers, ways)
            tasks = drawn_tasks(draw, many, draw.randrange(20))
            for task in tasks:
                policy.serve(task)
            amount, plan = policy.hindsight()
            self.assertEqual(policy.paper(), (
                start, tuple(numbers), tuple(map(tuple, ways)), tuple(map(tuple, tasks)),
                tuple(map(tuple, policy.works)), tuple(plan), amount,
            ))
            self.assertEqual(judge(policy.paper()), amount)


class BoundTest(unittest.TestCase):
    def check(self, policy, numbers, ways):
        many, most, height = len(numbers), max(map(max, ways)), max(numbers)
        bound = (2 * many - 1) * policy.hindsight()[0] + many * height + (many - 1) * most
        self.assertLessEqual(policy.spent, bound)

    def test_tasks_that_are_dear_where_it_lies(self):
        draw = helper.drawing(6)
        for many in range(1, 7):
            for _ in range(6):
                numbers, ways = drawn_ways(draw, many)
                policy = Policy(draw.randrange(many), numbers, ways)
                dear = draw.choice([1, 2, 5, 30])
                for _ in range(150):
                    task = [0] * many
                    task[policy.now] = dear
                    policy.serve(task)
                    self.check(policy, numbers, ways)

    def test_tasks_that_are_cheap_on_one_layout_alone(self):
        draw = helper.drawing(7)
        for many in range(2, 6):
            numbers, ways = drawn_ways(draw, many)
            policy = Policy(0, numbers, ways)
            for number in range(120):
                cheap = (policy.now + 1 + number // 40) % many
                policy.serve([0 if place == cheap else 3 for place in range(many)])
                self.check(policy, numbers, ways)

    def test_ways_of_a_state(self):
        state = State([
            ("relation", "r", ("a", "b"), 3), ("structure", "k", "r", ("a",), 2, 2),
            ("structure", "l", "r", ("b",), 1, 1),
            ("structure", "m", "r", ("a", "b"), 4, 1),
        ])
        layouts = [(), ("k",), ("l", "k"), ("m",), ("m", "l")]
        numbers = [stands(state, layout) for layout in layouts]
        ways = [[way(state, one, other) for other in layouts] for one in layouts]
        draw = helper.drawing(8)
        for start in range(5):
            policy = Policy(start, numbers, ways)
            for number in range(300):
                task = [0] * 5
                task[policy.now] = 1 + number % 7
                task[draw.randrange(5)] += draw.randrange(4)
                policy.serve([part - min(task) for part in task])
                self.check(policy, numbers, ways)
            self.assertEqual(judge(policy.paper()), policy.hindsight()[0])


if __name__ == "__main__":
    unittest.main()
