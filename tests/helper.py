"""What several test files use: states, and slow ways to tell what the document says."""

import copy
import random

from turnshelves.blocks import area_size, area_start, head, region_start, write_block
from turnshelves.codes import write_changes, write_image
from turnshelves.database import Database
from turnshelves.disk import Disk
from turnshelves.errors import DiskFull, NoSavepoint, NoTransaction, Refused, TransactionOpen
from turnshelves.papers import judge
from turnshelves.shapes import bucket_of_values, places, relation_shape, room_needed, structure_shape
from turnshelves.states import State, between
from turnshelves.statements import say, statement_calls

EMPTY = [0] * 64


def parts(state):
    return copy.deepcopy((state.relations, state.facts, state.structures, state.layouts))


def modify(state):
    """Modify everything in a state that can be modified."""
    for rows in state.facts.values():
        rows.append(("spoilt",))
    for table in (state.relations, state.facts, state.structures, state.layouts):
        table.clear()


def big(number, other=0):
    """A row of three values that has a sector of its own among others of its kind."""
    return (number, other, "v" * 30)


def shape_by_name(state, name):
    if name[0] == "relation":
        return relation_shape(state, name[1])
    return structure_shape(state, name[1])


def rooms(state, name):
    """The number of sectors of a room, by the items."""
    if name[0] == "relation":
        return state.relations[name[1]][1]
    return state.structures[name[1]][2] * state.structures[name[1]][3]


def used(state, name, number=0, room=None):
    """The used sectors of a bucket, by looking at the shape."""
    shape = shape_by_name(state, name)
    room = len(shape) if room is None else room
    return [(name, at) for at in range(number * room, (number + 1) * room) if shape[at][0] > 0]


def slow_read(state, layout, call):
    """The sectors that are read for a call, by the words of point 22."""
    relation, pattern = call
    if relation not in state.relations:
        return []
    columns = state.relations[relation][0]
    if len(columns) != len(pattern):
        return []
    values = dict(zip(columns, pattern))
    choices = [used(state, ("relation", relation))]
    for name in sorted(layout):
        over, by, buckets, sectors = state.structures[name]
        if over == relation and all(values[column] is not None for column in by):
            number = bucket_of_values(tuple(values[column] for column in by), buckets)
            choices.append(used(state, ("structure", name), number, sectors))
    return sorted(min(choices, key=len))


def slow_all_read(state, layout, calls):
    return sorted({sector for call in calls for sector in slow_read(state, layout, call)})


def slow_written(before, after, layout):
    """The sectors that are written, by the words of point 23."""
    names = [("relation", name) for name in sorted(before.relations)]
    names += [("structure", name) for name in sorted(layout)]
    sectors = []
    for name in names:
        old, new = shape_by_name(before, name), shape_by_name(after, name)
        sectors += [(name, at) for at in range(len(old)) if old[at] != new[at]]
    return sectors


def slow_cost(before, after, layout, calls):
    return len(slow_all_read(before, layout, calls)) + len(slow_written(before, after, layout))


def slow_offered(state):
    return [state.layouts[name] for name in sorted(state.layouts)] or [()]


def slow_stands(state, layout):
    total = 0
    for name in layout:
        total += rooms(state, ("relation", state.structures[name][0])) + rooms(state, ("structure", name))
    return total


def slow_way(state, first, second):
    there = [name for name in second if name not in first]
    back = [name for name in first if name not in second]
    return slow_stands(state, there) + slow_stands(state, back)


def drawn_state(draw, rows=12):
    """A state with some relations, structures and layouts, in which nothing is full."""
    items = []
    for name in draw.sample(["q", "r", "s"], draw.randrange(1, 4)):
        items.append(("relation", name, ("a", "b", "c"), draw.randrange(rows, 30)))
        for _ in range(draw.randrange(rows)):
            items.append(("fact", name, drawn_row(draw)))
    relations = [item[1] for item in items if item[0] == "relation"]
    names = draw.sample(["k", "l", "m", "q", "r"], draw.randrange(6))
    for name in names:
        columns = draw.choice([("a",), ("b",), ("a", "b"), ("b", "a"), ("c", "a"), ("a", "b", "c")])
        items.append(("structure", name, draw.choice(relations), columns, draw.randrange(1, 6), 8))
    for name in draw.sample(["u", "v", "w", "x"], draw.randrange(5)):
        items.append(("layout", name, tuple(draw.sample(names, draw.randrange(len(names) + 1)))))
    return State(items)


def drawn_row(draw):
    return (draw.randrange(3), draw.choice([0, 1, "x"]), "v" * draw.choice([0, 1, 20, 30]))


def drawn_call(draw, names=("q", "r", "s")):
    pattern = [value if draw.randrange(2) else None for value in drawn_row(draw)]
    return (draw.choice(names), tuple(pattern[:draw.choice([3, 3, 3, 3, 3, 3, 2])]))


def drawn_change(draw, state):
    """A state with the same schema and a few other facts."""
    changes = []
    for name in sorted(state.relations):
        for row in state.facts[name]:
            if draw.randrange(6) == 0:
                changes.append(("goes", (1, name, row)))
        for _ in range(draw.randrange(3)):
            changes.append(("comes", ("fact", name, drawn_row(draw))))
    return state.change(changes)


def drawing(seed):
    return random.Random(seed)


class Low:
    """What points 40 to 42 tell of the low part of a disk and of the counts, step by step."""

    def __init__(self, size):
        self.size = size
        self.sectors = [EMPTY] * region_start(size)
        self.reads, self.logs, self.syncs = 0, 0, 0
        self.head = None
        self.events = []

    def put(self, first, sectors):
        for at, sector in enumerate(sectors):
            self.sectors[first + at] = sector
            self.events.append(("write", first + at, sector))
            self.logs += 1
        self.events.append(("sync",))
        self.syncs += 1

    def renew(self, turn):
        place, area = (0, 0) if self.head is None else (1 - self.head[0], 1 - self.head[1])
        block = write_block(turn, write_image(self.commits, self.state))
        self.put(area_start(self.size, area), block)
        self.put(place, [head(turn, area)])
        self.head, self.turn, self.taken = (place, area), turn, len(block)

    def open(self):
        self.reads += len(self.sectors)
        self.events.append(("read", len(self.sectors)))
        if self.head is None:
            self.commits, self.state = 0, State()
            self.renew(1)
            return
        end = 2 + 2 * area_size(self.size)
        turns = [int.from_bytes(sector[:6], "big") for sector in self.sectors[2:end]]
        self.renew(max([self.turn] + turns) + 1)

    def commit(self, changes):
        self.commits += 1
        self.state = self.state.change(changes)
        block = write_block(self.turn, write_changes(changes))
        if self.taken + len(block) > area_size(self.size):
            self.renew(self.turn + 1)
            return True
        self.put(area_start(self.size, self.head[1]) + self.taken, block)
        self.taken += len(block)
        return False

    def fits(self, changes):
        """True if a commit with these changes can be stored, by point 41."""
        made = self.state.change(changes)
        if len(write_block(1, write_image(self.commits + 1, made))) > area_size(self.size):
            return False
        return room_needed(made) <= (self.size - 2) // 2


class Recorder(Disk):
    """A disk that keeps what is done with it."""

    def __init__(self, sectors):
        Disk.__init__(self, sectors)
        self.events = []

    def write(self, index, data):
        Disk.write(self, index, data)
        self.events.append(("write", index, list(data)))

    def sync(self):
        Disk.sync(self)
        self.events.append(("sync",))

    def note_reads(self, count):
        Disk.note_reads(self, count)
        self.events.append(("read", count))


def merged(events):
    """Some events, with the reads between two operations as one."""
    told = []
    for event in events:
        if event[0] != "read":
            told.append(event)
        elif told and told[-1][0] == "read":
            told[-1] = ("read", told[-1][1] + event[1])
        elif event[1] > 0:
            told.append(event)
    return told


class Told:
    """A transaction of the model: its words and what its statements were told."""

    def __init__(self):
        self.words, self.notes = [], []


def run_words(state, words):
    """The state, what is told, the calls and the marks when words are run, by point 32."""
    marks, notes, calls = [], [], []
    for sort, word in words:
        if sort == "statement":
            calls += statement_calls(state, word)
            told, state = run_alone(state, word)
            notes.append(told)
        elif sort == "savepoint":
            marks.append((word, state))
        elif word in [name for name, _ in marks]:
            while marks[-1][0] != word:
                marks.pop()
            state = marks[-1][1]
    return state, notes, calls, marks


def run_alone(state, statement):
    try:
        answer, made = say(state, statement)
    except Refused as refused:
        return ("problem", refused.problem), state
    return ("answer", answer), made


class Model:
    """What points 31 to 34 and 44 to 49 tell of a database, step by step."""

    def __init__(self, size):
        self.low = Low(size)
        self.first = region_start(size)
        self.events = self.low.events
        self.reads = self.writes = 0
        self.open_again()

    def open_again(self):
        self.transactions = {}
        self.low.open()
        self.lies = slow_offered(self.state())[0]
        self.write_all()
        self.begin_phase()

    def state(self):
        return self.low.state

    def begin_phase(self):
        state = self.state()
        self.layouts = slow_offered(state)
        self.ways = [[slow_way(state, one, other) for other in self.layouts] for one in self.layouts]
        self.work = self.ways[self.layouts.index(self.lies)]
        self.tasks = self.base = self.spent = 0
        self.mark = sum(self.counts()[:2])

    def read(self, many):
        self.reads += many
        self.events.append(("read", many))

    def write(self, name, numbers):
        start = self.first + places(self.state())[name]
        shape = shape_by_name(self.state(), name)
        for number in numbers:
            self.events.append(("write", start + number, shape[number]))
            self.writes += 1

    def write_room(self, name):
        self.write(name, range(rooms(self.state(), name)))

    def write_all(self):
        for name in sorted(self.state().relations):
            self.write_room(("relation", name))
        for name in sorted(self.lies):
            self.write_room(("structure", name))

    def serve(self, after, calls):
        """Point 46, 1 to 3."""
        state = self.state()
        costs = [slow_cost(state, after, layout, calls) for layout in self.layouts]
        least = min(costs)
        if max(costs) > least:
            self.task([number - least for number in costs])
        self.read(len(slow_all_read(state, self.lies, calls)))
        self.base += least

    def task(self, task):
        many, lies = range(len(task)), self.layouts.index(self.lies)
        sums = [self.work[x] + 2 * task[x] + self.ways[x][lies] for x in many]
        self.work = [min(self.work[x] + 2 * task[x] + self.ways[x][s] for x in many) for s in many]
        self.tasks += 1
        if min(sums) < sums[lies]:
            self.move(self.layouts[sums.index(min(sums))])
        self.spent += task[self.layouts.index(self.lies)]

    def move(self, layout):
        for name in layout:
            if name not in self.lies:
                relation = self.state().structures[name][0]
                self.read(self.state().relations[relation][1])
                self.write_room(("structure", name))
                self.spent += self.state().relations[relation][1] + rooms(self.state(), ("structure", name))
        self.lies = layout

    def finish(self, made, calls):
        """Serve a request and store its commit; False if it cannot be stored."""
        state = self.state()
        changes = between(state, made)
        fits = not changes or self.low.fits(changes)
        if changes and fits and not state.same_schema(made):
            self.read(len(slow_all_read(state, self.lies, calls)))
            self.read(room_needed(state))
            self.low.commit(changes)
            if self.lies not in slow_offered(made):
                self.lies = slow_offered(made)[0]
            self.write_all()
            self.begin_phase()
            return True
        self.serve(made if fits else state, calls)
        if changes and fits:
            sectors = slow_written(state, made, self.lies)
            self.low.commit(changes)
            for name, number in sectors:
                self.write(name, [number])
        return fits

    def start(self):
        if self.tasks >= 1000:
            self.begin_phase()

    def run(self, session, statement):
        self.start()
        state = self.state()
        if session not in self.transactions:
            told, made = run_alone(state, statement)
            if told[0] == "problem":
                return told
            return told if self.finish(made, statement_calls(state, statement)) else ("full",)
        transaction = self.transactions[session]
        own = run_words(state, transaction.words)[0]
        transaction.words.append(("statement", statement))
        told = run_alone(own, statement)[0]
        transaction.notes.append(told)
        self.serve(state, statement_calls(own, statement))
        return told

    def begin(self, session):
        if session in self.transactions:
            return ("open",)
        self.transactions[session] = Told()
        return ("answer", None)

    def commit(self, session):
        if session not in self.transactions:
            return ("none",)
        self.start()
        transaction = self.transactions.pop(session)
        made, notes, calls, _ = run_words(self.state(), transaction.words)
        for index, told in enumerate(notes):
            if told != transaction.notes[index]:
                self.serve(self.state(), calls)
                return ("answer", (index, told))
        return ("answer", None) if self.finish(made, calls) else ("full",)

    def rollback(self, session):
        if session not in self.transactions:
            return ("none",)
        del self.transactions[session]
        return ("answer", None)

    def savepoint(self, session, name):
        if session not in self.transactions:
            return ("none",)
        self.transactions[session].words.append(("savepoint", name))
        return ("answer", None)

    def rollback_to(self, session, name):
        if session not in self.transactions:
            return ("none",)
        words = self.transactions[session].words
        if name not in [mark for mark, _ in run_words(self.state(), words)[3]]:
            return ("no savepoint",)
        words.append(("rollback to", name))
        return ("answer", None)

    def status(self):
        return (self.low.commits, self.lies, self.tasks, self.base, self.spent)

    def counts(self):
        return (self.reads + self.low.reads, self.writes, self.low.logs, self.low.syncs)


def outcome(action, *told):
    """What an action gives, in the words of the model."""
    try:
        return ("answer", action(*told))
    except Refused as refused:
        return ("problem", refused.problem)
    except DiskFull:
        return ("full",)
    except TransactionOpen:
        return ("open",)
    except NoTransaction:
        return ("none",)
    except NoSavepoint:
        return ("no savepoint",)


class Pair:
    """A database and the model, which do the same."""

    def __init__(self, case, size):
        self.case = case
        self.disk = Recorder(size)
        self.database = Database(self.disk)
        self.model = Model(size)
        self.sessions = {}
        self.check()

    def session(self, name):
        if name not in self.sessions:
            self.sessions[name] = self.database.session()
        return self.sessions[name]

    def do(self, session, word, *told):
        """Do something with both, and compare everything; what it gives is returned."""
        with self.case.subTest(session=session, word=word, told=told):
            result = outcome(getattr(self.session(session), word), *told)
            wanted = getattr(self.model, word)(session, *told)
            self.case.assertEqual(result, wanted)
            self.case.assertEqual(repr(result), repr(wanted))
            self.check()
        return result

    def run(self, statement, session="s"):
        return self.do(session, "run", statement)

    def check(self):
        case, disk, model = self.case, self.disk, self.model
        case.assertEqual(merged(disk.events), merged(model.events))
        disk.events.clear()
        model.events.clear()
        case.assertEqual(self.database.status(), model.status())
        case.assertEqual(disk.counts(), model.counts())
        reads, writes, _, _ = disk.counts()
        case.assertEqual(reads + writes - model.mark, model.base + model.spent)
        self.check_region()

    def check_region(self):
        """In the region lies what point 44 tells."""
        state, first = self.model.state(), region_start(self.disk.size())
        for name, start in places(state).items():
            if name[0] == "relation" or name[1] in self.model.lies:
                for at, sector in enumerate(shape_by_name(state, name)):
                    self.case.assertEqual(self.disk.read(first + start + at), sector, (name, at))

    def check_paper(self):
        """The hindsight and the paper of the phase."""
        amount, plan = self.database.hindsight()
        paper = self.database.paper()
        self.case.assertEqual(judge(paper), amount)
        self.case.assertEqual(plan, [self.model.layouts[place] for place in paper[5]])
        self.case.assertEqual((len(plan), len(paper[3])), (self.model.tasks, self.model.tasks))
        self.case.assertEqual(paper[1], tuple(slow_stands(self.model.state(), layout) for layout in self.model.layouts))
        self.case.assertEqual(paper[2], tuple(tuple(row) for row in self.model.ways))
        many, ways = len(plan and self.model.layouts), self.model.ways
        if many:
            bound = (2 * many - 1) * amount + many * max(paper[1]) + (many - 1) * max(map(max, ways))
            self.case.assertLessEqual(self.model.spent, bound)

    def open_again(self, kept=()):
        """Let power fail and come back, and open the database again."""
        self.disk.power(list(kept))
        self.database = Database(self.disk)
        self.sessions = {}
        self.model.open_again()
        self.check()
