"""Papers, and how they are judged without the policy that wrote them."""

MOST_NUMBER = 1000000000000
MOST_LAYOUTS = 16
MOST_TASKS = 1000
PARTS = 7


def is_number(value):
    """True if a value is a number that may stand in a paper."""
    if not isinstance(value, int) or isinstance(value, bool):
        return False
    return 0 <= value <= MOST_NUMBER


def is_row(value, many):
    """True if a value is a tuple of so many numbers."""
    if not isinstance(value, tuple) or len(value) != many:
        return False
    return all([is_number(part) for part in value])


def is_table(value, many, wide):
    """True if a value is a tuple of so many tuples of so many numbers."""
    if not isinstance(value, tuple) or len(value) != many:
        return False
    return all([is_row(part, wide) for part in value])


def is_place(value, many):
    """True if a value is the number of one of so many layouts."""
    return is_number(value) and value < many


def has_form(paper):
    """True if a value has the parts of a paper, with the lengths that they need."""
    if not isinstance(paper, tuple) or len(paper) != PARTS:
        return False
    start, stands, ways, tasks, work, row, spent = paper
    if not isinstance(stands, tuple) or not isinstance(tasks, tuple):
        return False
    many = len(stands)
    if many < 1 or many > MOST_LAYOUTS or len(tasks) > MOST_TASKS:
        return False
    if not is_place(start, many) or not is_number(spent):
        return False
    if not is_row(stands, many) or not is_table(ways, many, many) or not is_table(tasks, len(tasks), many):
        return False
    if not is_table(work, len(tasks) + 1, many) or not is_row(row, len(tasks)):
        return False
    return all([place < many for place in row])


def twice_going(paper, first, second):
    """Twice what going from a layout to a second one costs."""
    stands = paper[1]
    return paper[2][first][second] + stands[second] - stands[first]


def ways_hold(paper):
    """True if each way leads somewhere else, and going costs a number of sectors."""
    many = len(paper[1])
    if any([paper[2][place][place] != 0 for place in range(many)]):
        return False
    twice = [twice_going(paper, first, second) for first in range(many) for second in range(many)]
    return all([number >= 0 and number & 1 == 0 for number in twice])


def none_greater(numbers, bounds):
    """True if no number is greater than the bound in its place."""
    return all([number <= bound for number, bound in zip(numbers, bounds)])


def work_holds(paper):
    """True if no work is greater than it may be."""
    start, _, ways, tasks, work, _, _ = paper
    if not none_greater(work[0], ways[start]):
        return False
    for at, task in enumerate(tasks):
        for place, told in enumerate(work[at]):
            served = told + 2 * task[place]
            if not none_greater(work[at + 1], [served + number for number in ways[place]]):
                return False
    return True


def twice_spent(paper):
    """Twice what the plan of a paper spends."""
    place, _, _, tasks, _, row, _ = paper
    twice = 0
    for task, chosen in zip(tasks, row):
        twice += twice_going(paper, place, chosen) + 2 * task[chosen]
        place = chosen
    return twice


def plan_holds(paper):
    """True if the plan spends what is told, and no plan can spend less."""
    start, stands, _, _, work, _, spent = paper
    if twice_spent(paper) != 2 * spent:
        return False
    ends = [number + standing for number, standing in zip(work[-1], stands)]
    return 2 * spent + stands[start] <= min(ends)


def judge(paper):
    """What a cheapest plan spends, if the paper shows it, otherwise None."""
    if not has_form(paper):
        return None
    if ways_hold(paper) and work_holds(paper) and plan_holds(paper):
        return paper[-1]
    return None
