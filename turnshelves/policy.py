"""The policy that decides where to go, on numbers alone."""


def first_least(numbers):
    """The index of the first of the least of some numbers."""
    return numbers.index(min(numbers))


class Policy:
    """Serves tasks on layouts, and knows what they could have cost."""

    def __init__(self, start, stands, ways):
        self.start = start
        self.stands = list(stands)
        self.ways = [list(row) for row in ways]
        self.now = start
        self.spent = 0
        self.tasks = []
        self.works = [list(self.ways[start])]

    def going(self, first, second):
        """What going from a layout to a second one costs."""
        return (self.ways[first][second] + self.stands[second] - self.stands[first]) // 2

    def sums(self, at, place):
        """For each layout its work before a task, twice the excess on it and the way from it to a place."""
        parts = list(zip(self.works[at], self.tasks[at], self.ways))
        return [work + 2 * excess + row[place] for work, excess, row in parts]

    def serve(self, task):
        """Add a task; the layout on which it is served is returned."""
        at = len(self.tasks)
        self.tasks.append(list(task))
        self.works.append([min(self.sums(at, place)) for place in range(len(self.stands))])
        numbers = self.sums(at, self.now)
        chosen = self.now
        if min(numbers) < numbers[chosen]:
            chosen = first_least(numbers)
        self.spent += self.going(self.now, chosen) + task[chosen]
        self.now = chosen
        return chosen

    def hindsight(self):
        """The pair of the cheapest amount and a cheapest plan."""
        ends = [work + standing for work, standing in zip(self.works[-1], self.stands)]
        place = first_least(ends)
        plan = []
        for at in reversed(range(len(self.tasks))):
            place = first_least(self.sums(at, place))
            plan.append(place)
        return ((min(ends) - self.stands[self.start]) // 2, plan[::-1])

    def paper(self):
        """The paper, which shows what the cheapest amount is."""
        amount, plan = self.hindsight()
        ways = tuple([tuple(row) for row in self.ways])
        tasks = tuple([tuple(task) for task in self.tasks])
        works = tuple([tuple(work) for work in self.works])
        return (self.start, tuple(self.stands), ways, tasks, works, tuple(plan), amount)
