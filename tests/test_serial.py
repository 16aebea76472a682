"""Tests of what the whole program promises (points 1, 2, 3, 13, 29, 43, 50 and 52)."""

import unittest

import helper
from helper import outcome
from turnshelves.database import Database
from turnshelves.disk import Disk
from turnshelves.errors import PowerOff, Refused
from turnshelves.papers import judge
from turnshelves.questions import answer, calls, meets
from turnshelves.states import State
from turnshelves.statements import say

ANY = ("any",)
X, Y, N = ("variable", "x"), ("variable", "y"), ("variable", "n")
BASICS = [("relation", "q", ("d",), 2), ("relation", "r", ("a", "b", "c"), 9)]
STRUCTURES = [
    ("structure", "i", "r", ("a",), 4, 3), ("structure", "j", "r", ("b",), 2, 5),
    ("structure", "k", "r", ("b", "a"), 4, 3),
]
LAYOUTS = [("layout", "t", ("j",)), ("layout", "u", ()), ("layout", "v", ("i",)), ("layout", "w", ("k", "i"))]


def drawn_statement(draw):
    """A statement whose answer does not tell which layouts are offered."""
    a, b = ("value", draw.randrange(4)), ("value", draw.randrange(3))
    row = (a[1], b[1], draw.choice(["", "c" * 30]))
    if draw.randrange(100) == 0:
        # Each of these begins a phase.
        return draw.choice([("drop", "z"), ("relation", "z", ("e",), 1)])
    return draw.choice([
        ("add", "r", row), ("add", "r", row), ("remove", "r", row), ("add", "q", row[:1]), ("remove", "q", row[:1]),
        ("ask", (("fact", "r", (a, X, ANY)),)), ("ask", (("fact", "r", (X, b, ANY)),)),
        ("ask", (("fact", "r", (a, b, X)),)),
        ("ask", (("fact", "q", (X,)), ("fact", "r", (X, Y, ANY)))),
        ("ask", (("count", "n", "r", (a, ANY, ANY)), ("compare", "<", N, ("value", 2)))),
        ("ask", (("fact", "q", (X,)), ("not", "r", (X, b, ("value", ""))))),
        ("ask", (("greatest", "n", X, "r", (X, b, ANY)),)), ("ask", (("sum", "n", ("value", 2), "q", (ANY,)),)),
        ("add", "z", row[:1]), ("ask", (("fact", "z", (X,)),)),
        ("add", "r", row[:2]), ("ask", (("fact", "r", (X, X, ANY)),)),
    ])


class Script:
    """Drawn things that several sessions do, and what they give on a database."""

    def __init__(self, draw, many):
        self.steps = []
        for _ in range(many):
            word = draw.choice(["run"] * 8 + ["begin"] * 2 + ["commit"] * 2 + ["rollback", "savepoint", "rollback_to"])
            told = ()
            if word == "run":
                told = (drawn_statement(draw),)
            elif word in ("savepoint", "rollback_to"):
                told = (draw.choice("mn"),)
            self.steps.append((draw.choice("abc"), word, told))


class Serial:
    """Keeps the committed transactions in their order, with what they were told."""

    def __init__(self, case):
        self.case = case
        self.done = []
        self.open = {}

    def note(self, session, word, told, result):
        """Note what a session did and what it was given."""
        if word == "begin" and result == ("answer", None):
            self.open[session] = []
        elif session not in self.open:
            if word == "run":
                self.done.append([("run", told[0], result)])
        elif word == "run":
            self.open[session].append(("run", told[0], result))
        elif result[0] == "answer" and word in ("savepoint", "rollback_to"):
            self.open[session].append((word, told[0], None))
        elif word == "commit":
            words = self.open.pop(session)
            if result == ("answer", None):
                self.done.append(words)
        elif word == "rollback":
            del self.open[session]

    def replay(self, state):
        """Run the transactions one after another, each alone; they are told what they were told."""
        for words in self.done:
            marks = []
            for word, told, result in words:
                if word == "run":
                    again, state = self.told(state, told)
                    self.case.assertEqual(again, result)
                elif word == "savepoint":
                    marks.append((told, state))
                else:
                    while marks[-1][0] != told:
                        marks.pop()
                    state = marks[-1][1]
        return state

    def told(self, state, statement):
        try:
            reply, made = say(state, statement)
        except Refused as refused:
            return ("problem", refused.problem), state
        return ("answer", reply), made


class OrderTest(unittest.TestCase):
    def run_script(self, script, *statements, size=260):
        """What everything gives; it is held against its serial order."""
        disk = Disk(size)
        database = Database(disk)
        first = database.session()
        for statement in BASICS + list(statements):
            first.run(statement)
        start = database.store.state
        sessions = {name: database.session() for name in "abc"}
        serial, results = Serial(self), []
        mark, lies = disk.counts(), []
        for session, word, told in script.steps:
            result = outcome(getattr(sessions[session], word), *told)
            results.append(result)
            serial.note(session, word, told, result)
            lies.append(database.status()[1])
        made = serial.replay(start)
        self.assertEqual(made.all_items(), database.store.state.all_items())
        disk.power([])
        self.assertEqual(Database(disk).store.state.all_items(), made.all_items())
        self.assertNotEqual(disk.counts(), mark)
        return results, lies

    def test_one_serial_order_and_the_same_answers_on_each_database(self):
        draw = helper.drawing(21)
        refused = moves = commits = 0
        for _ in range(8):
            script = Script(draw, 500)
            plain, _ = self.run_script(script, *STRUCTURES)
            several, lies = self.run_script(script, *STRUCTURES, *LAYOUTS)
            one, _ = self.run_script(script, *STRUCTURES, LAYOUTS[2])
            other, _ = self.run_script(script, *STRUCTURES, *LAYOUTS[::-1], size=300)
            self.assertEqual(several, plain)
            self.assertEqual(one, plain)
            self.assertEqual(other, plain)
            for step, result in zip(script.steps, plain):
                if step[1] == "commit" and result[0] == "answer":
                    refused += result[1] is not None
                    commits += result[1] is None
            moves += sum(first != second for first, second in zip(lies, lies[1:]))
        self.assertGreater(min(refused, moves, commits), 5, (refused, moves, commits))

    def test_without_structures(self):
        draw = helper.drawing(22)
        for _ in range(4):
            script = Script(draw, 200)
            self.run_script(script)
            self.run_script(script, size=140)

    def test_a_disk_that_becomes_full(self):
        draw = helper.drawing(23)
        full = 0
        for _ in range(4):
            disk = Disk(62)
            database = Database(disk)
            for statement in BASICS + [("relation", "w", ("a", "b"), 18)]:
                database.session().run(statement)
            serial, start = Serial(self), database.store.state
            sessions = {name: database.session() for name in "abc"}
            for session, word, told in Script(draw, 250).steps:
                if word == "run" and draw.randrange(3) == 0:
                    told = (("add", "w", (draw.randrange(50), "c" * draw.randrange(31))),)
                if word == "run" and draw.randrange(20) == 0:
                    told = (("relation", "y", ("e" * 12, "f" * 12), draw.choice([1, 30])),)
                result = outcome(getattr(sessions[session], word), *told)
                if result == ("full",):
                    full += 1
                    if session not in serial.open:
                        continue
                serial.note(session, word, told, result)
            self.assertEqual(serial.replay(start).all_items(), database.store.state.all_items())
        self.assertGreater(full, 5)

    def test_wherever_power_fails(self):
        draw = helper.drawing(24)
        cuts = 0
        for _ in range(10):
            disk = Disk(260)
            database = Database(disk)
            for statement in BASICS + STRUCTURES + LAYOUTS:
                database.session().run(statement)
            state = database.store.state
            for _ in range(8):
                serial, sessions = Serial(self), {name: database.session() for name in "abc"}
                disk.fail_after(draw.randrange(120))
                last = None
                try:
                    for session, word, told in Script(draw, 150).steps:
                        last = (session, word, told)
                        serial.note(session, word, told, outcome(getattr(sessions[session], word), *told))
                except PowerOff:
                    cuts += 1
                disk.power([draw.randrange(2) == 1 for _ in range(disk.pending())])
                database = Database(disk)
                without = serial.replay(state)
                found = database.store.state
                if found.all_items() != without.all_items():
                    self.assertEqual(found.all_items(), self.with_last(serial, without, last).all_items())
                state = found
        self.assertGreater(cuts, 20)

    def with_last(self, serial, state, last):
        """The state with the commit in which power failed."""
        session, word, told = last
        if session not in serial.open:
            self.assertEqual(word, "run")
            return serial.told(state, told[0])[1]
        self.assertEqual(word, "commit")
        serial.done = [serial.open[session]]
        return serial.replay(state)


class WholeTest(unittest.TestCase):
    def test_what_a_phase_spends(self):
        """Point 2: what is read and written in a phase, against the cheapest layouts and any plan."""
        draw = helper.drawing(25)
        disk = Disk(260)
        database = Database(disk)
        session = database.session()
        for statement in BASICS + STRUCTURES + LAYOUTS:
            session.run(statement)
        for _ in range(30):
            outcome(session.run, ("add", "r", (draw.randrange(9), draw.randrange(9), "c" * 30)))
        mark = sum(disk.counts()[:2]) - sum(database.status()[3:])
        for number in range(400):
            outcome(session.run, draw.choice([
                ("ask", (("fact", "r", (("value", number % 9), X, ANY)),)),
                ("ask", (("fact", "r", (X, ("value", number % 9), ANY)),)),
                ("add", "r", (number % 9, draw.randrange(9), "c" * 30)), ("remove", "r", (number % 9, 3, "c" * 30)),
            ] if number // 50 % 2 else [("ask", (("fact", "r", (("value", 3), X, ANY)),))]))
            _, _, tasks, base, spent = database.status()
            self.assertEqual(sum(disk.counts()[:2]) - mark, base + spent)
            amount, plan = database.hindsight()
            _, stands, ways, _, _, _, _ = database.paper()
            bound = 7 * amount + 4 * max(stands) + 3 * max(map(max, ways))
            self.assertLessEqual(spent, bound)
            self.assertEqual(len(plan), tasks)
        self.assertEqual(judge(database.paper()), amount)
        self.assertGreater(tasks, 200)

    def test_the_rows_that_are_read_give_the_answer(self):
        """Point 13, with the sectors that are read: no other fact meets the calls."""
        draw = helper.drawing(26)
        for _ in range(60):
            state = State(BASICS)
            for _ in range(12):
                try:
                    state = say(state, drawn_statement(draw))[1]
                except Refused:
                    pass
            body = drawn_statement(draw)
            if body[0] != "ask":
                continue
            try:
                wanted = answer(state, body[1])
            except Refused:
                continue
            made = calls(state, body[1])
            facts = [item for item in state.all_items() if item[0] == "fact"]
            kept = [item for item in facts if any(call[0] == item[1] and meets(call, item[2]) for call in made)]
            fewer = State([item for item in state.all_items() if item[0] != "fact"] + kept)
            self.assertEqual((answer(fewer, body[1]), calls(fewer, body[1])), (wanted, made))

    def test_the_same_twice(self):
        """Point 3: neither clock nor random numbers, so the same is the same."""
        told = []
        for _ in range(2):
            draw = helper.drawing(27)
            disk = Disk(260)
            session = Database(disk).session()
            results = [outcome(session.run, statement) for statement in BASICS + STRUCTURES + LAYOUTS]
            results += [outcome(session.run, drawn_statement(draw)) for _ in range(150)]
            told.append((results, disk.counts(), [disk.read(at) for at in range(260)]))
        self.assertEqual(told[0], told[1])

    def test_two_databases_share_nothing(self):
        draw = helper.drawing(28)
        one, other = Database(Disk(260)), Database(Disk(260))
        session = one.session()
        for statement in BASICS + STRUCTURES + LAYOUTS:
            session.run(statement)
        for _ in range(60):
            outcome(session.run, drawn_statement(draw))
        self.assertEqual(other.status(), (0, (), 0, 0, 0))
        self.assertEqual(other.session().run(("show",)), [])


if __name__ == "__main__":
    unittest.main()
