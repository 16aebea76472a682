"""The database: sessions whose requests are served on the layout that lies."""

from turnshelves.blocks import region_start
from turnshelves.costs import Request, offered, stands, way
from turnshelves.errors import DatabaseClosed, DatabaseOpen, DiskFull, NoTransaction, TransactionOpen
from turnshelves.policy import Policy
from turnshelves.shapes import places, room_needed, room_of, shape_of
from turnshelves.states import between
from turnshelves.statements import say, statement_calls
from turnshelves.store import Store
from turnshelves.transactions import Words

MOST_TASKS = 1000


class Region:
    """The region of a disk, in which the shapes of a state lie at their places."""

    def __init__(self, disk):
        self.disk = disk
        self.first = region_start(disk.size())

    def write_sectors(self, state, sectors):
        """Write some sectors of the shapes of a state, in their order."""
        starts = places(state)
        shapes = {}
        for name, at in sectors:
            if name not in shapes:
                shapes[name] = shape_of(state, name)
            self.disk.write(self.first + starts[name] + at, shapes[name][at])

    def write_rooms(self, state, names):
        """Write the whole rooms of some relations and structures of a state."""
        self.write_sectors(state, [(name, at) for name in names for at in range(room_of(state, name))])

    def write_all(self, state, layout):
        """Write the whole rooms of all relations and of the structures of a layout."""
        relations = [("relation", name) for name in sorted(state.relations)]
        self.write_rooms(state, relations + [("structure", name) for name in sorted(layout)])


class Phase:
    """The requests since the schema is as it is, or since the tasks became too many."""

    def __init__(self, state, layout):
        self.layouts = offered(state)
        self.base = 0
        heights = [stands(state, each) for each in self.layouts]
        ways = [[way(state, each, other) for other in self.layouts] for each in self.layouts]
        self.policy = Policy(self.layouts.index(layout), heights, ways)

    def is_over(self):
        """True if the next statement or commit begins another phase."""
        return len(self.policy.tasks) >= MOST_TASKS

    def serve(self, numbers):
        """Serve a request with its costs on the layouts; the layout that lies then is returned."""
        least = min(numbers)
        self.base += least
        if max(numbers) > least:
            self.policy.serve([number - least for number in numbers])
        return self.layouts[self.policy.now]


class Database:
    """Keeps the state of a disk's store, and decides which layout lies in the region."""

    def __init__(self, disk):
        if disk.is_held():
            raise DatabaseOpen("another database of this disk is in use")
        self.disk = disk
        self.store = Store(disk)
        self.region = Region(disk)
        self.lies = offered(self.store.state)[0]
        self.region.write_all(self.store.state, self.lies)
        self.phase = Phase(self.store.state, self.lies)
        disk.hold()
        # As soon as power has failed more often than this, the database is closed.
        self.failures = disk.losses()

    def check_open(self):
        """Raise an error if the database is closed."""
        if self.disk.losses() != self.failures:
            raise DatabaseClosed("the power failed")

    def session(self):
        """A new Session."""
        self.check_open()
        return Session(self)

    def status(self):
        """The tuple of the commits, the layout that lies, and the phase's tasks, base and what was spent."""
        self.check_open()
        policy = self.phase.policy
        return (self.store.commits, self.lies, len(policy.tasks), self.phase.base, policy.spent)

    def hindsight(self):
        """The pair of the cheapest amount and a cheapest plan of the phase, a list of layouts."""
        self.check_open()
        amount, plan = self.phase.policy.hindsight()
        return (amount, [self.phase.layouts[place] for place in plan])

    def paper(self):
        """The paper of the phase."""
        self.check_open()
        return self.phase.policy.paper()

    def begin_request(self):
        """Begin a statement or a commit; the state now is returned."""
        if self.phase.is_over():
            self.phase = Phase(self.store.state, self.lies)
        return self.store.state

    def move(self, layout):
        """Lay the structures of a layout that do not lie; then it lies."""
        state = self.store.state
        for structure in layout:
            if structure not in self.lies:
                self.disk.note_reads(room_of(state, ("relation", state.structures[structure][0])))
                self.region.write_rooms(state, [("structure", structure)])
        self.lies = layout

    def serve(self, request):
        """Decide on which layout a request is served, go there and read for its calls."""
        self.move(self.phase.serve(request.all_costs()))
        self.disk.note_reads(len(request.sectors_read(self.lies)))

    def finish(self, made, calls):
        """Serve a statement or a commit that has some calls and makes a state of the state now, and store it."""
        state = self.store.state
        changes = between(state, made)
        if not changes or not self.store.fits(changes):
            self.serve(Request(state, state, calls))
            if changes:
                raise DiskFull("the state after the commit has no room on the disk")
        elif made.same_schema(state):
            self.store_rows(Request(state, made, calls), changes)
        else:
            self.store_schema(Request(state, state, calls), changes)

    def store_rows(self, request, changes):
        """Serve a request and store its commit, which does not change the schema."""
        self.serve(request)
        self.store.commit(changes)
        self.region.write_sectors(self.store.state, request.sectors_written(self.lies))

    def store_schema(self, request, changes):
        """Read for a request and store its commit, which changes the schema, and begin a phase."""
        self.disk.note_reads(len(request.sectors_read(self.lies)))
        self.disk.note_reads(room_needed(self.store.state))
        self.store.commit(changes)
        state = self.store.state
        layouts = offered(state)
        if self.lies not in layouts:
            self.lies = layouts[0]
        self.region.write_all(state, self.lies)
        self.phase = Phase(state, self.lies)


class Session:
    """Says statements, alone or in a transaction."""

    def __init__(self, database):
        self.database = database
        self.words = None

    def open_words(self):
        """The words of the transaction; without one an error is raised."""
        self.database.check_open()
        if self.words is None:
            raise NoTransaction("no transaction has begun")
        return self.words

    def run(self, statement):
        """Answer a statement."""
        self.database.check_open()
        state = self.database.begin_request()
        if self.words is None:
            answer, made = say(state, statement)
            self.database.finish(made, statement_calls(state, statement))
            return answer
        calls = statement_calls(self.words.own(state), statement)
        answer = self.words.say(state, statement)
        self.database.serve(Request(state, state, calls))
        return answer

    def begin(self):
        """Begin a transaction."""
        self.database.check_open()
        if self.words is not None:
            raise TransactionOpen("a transaction has begun already")
        self.words = Words()

    def commit(self):
        """End the transaction and store it, or return why it is refused."""
        words = self.open_words()
        state = self.database.begin_request()
        self.words = None
        index, told, made = words.again(state)
        calls = words.all_calls(state)
        if index is not None:
            self.database.serve(Request(state, state, calls))
            return (index, told)
        self.database.finish(made, calls)
        return None

    def rollback(self):
        """End the transaction."""
        self.open_words()
        self.words = None

    def savepoint(self, name):
        """Note a savepoint."""
        self.open_words().savepoint(name)

    def rollback_to(self, name):
        """Note that the transaction goes back to a savepoint."""
        self.open_words().rollback_to(self.database.store.state, name)
