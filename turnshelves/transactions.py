"""The words of a transaction, which can be run again on any state."""

from turnshelves.errors import NoSavepoint, Refused
from turnshelves.statements import say, statement_calls


def told_by(state, statement):
    """The pair of what a statement is told on a state and the state after it."""
    try:
        answer, made = say(state, statement)
    except Refused as refused:
        return (("problem", refused.problem), state)
    return (("answer", answer), made)


def same(first, second):
    """True if two things that were told have equal values of equal kinds."""
    # In Python True equals 1, but it is of another kind.
    if first != second or isinstance(first, bool) != isinstance(second, bool):
        return False
    if isinstance(first, (tuple, list)):
        return all([same(one, other) for one, other in zip(first, second)])
    return True


def copied(answer):
    """An answer that shares nothing that can be modified with another one."""
    if isinstance(answer, list):
        return list(answer)
    if isinstance(answer, tuple):
        columns, rows = answer
        return (columns, list(rows))
    return answer


class Run:
    """The words of a transaction as they are run on a state, one after another."""

    def __init__(self, state):
        self.state = state.copy()
        self.marks = []

    def marked(self, name):
        """The index of the newest mark of a name, or None."""
        places = [at for at, mark in enumerate(self.marks) if mark[0] == name]
        return places[-1] if places else None

    def go_back(self, name):
        """Go back to the newest mark of a name, if there is one."""
        at = self.marked(name)
        if at is not None:
            self.state = self.marks[at][1]
            self.marks = self.marks[:at + 1]

    def step(self, word):
        """Run the next word; what a statement is told is returned, otherwise None."""
        sort, said = word
        if sort == "statement":
            told, self.state = told_by(self.state, said)
            return told
        if sort == "savepoint":
            self.marks.append((said, self.state))
        else:
            self.go_back(said)
        return None


class Words:
    """What was said in a transaction, and what each statement was told."""

    def __init__(self):
        self.words = []
        self.notes = []

    def run(self, state):
        """The Run of all words on a state."""
        run = Run(state)
        for word in self.words:
            run.step(word)
        return run

    def own(self, state):
        """The own state, which the words make of the state now."""
        return self.run(state).state

    def say(self, state, statement):
        """Answer a statement on the own state, and note it with what it was told."""
        told, _ = told_by(self.own(state), statement)
        self.words.append(("statement", statement))
        self.notes.append(told)
        sort, reply = told
        if sort == "problem":
            raise Refused(reply)
        return copied(reply)

    def savepoint(self, name):
        """Note a savepoint."""
        self.words.append(("savepoint", name))

    def rollback_to(self, state, name):
        """Note that the own state goes back to the newest mark of a name."""
        if self.run(state).marked(name) is None:
            raise NoSavepoint(f"no savepoint {name}")
        self.words.append(("rollback to", name))

    def again(self, state):
        """Run everything again: the triple of the first difference and what is told there, or the state made."""
        run = Run(state)
        index = 0
        for word in self.words:
            told = run.step(word)
            if told is not None:
                if not same(told, self.notes[index]):
                    return (index, told, None)
                index += 1
        return (None, None, run.state)

    def all_calls(self, state):
        """The list of the calls of all statements, each on the own state that it sees."""
        run = Run(state)
        told = []
        for word in self.words:
            if word[0] == "statement":
                told.extend(statement_calls(run.state, word[1]))
            run.step(word)
        return told
