"""States, which are sets of items with different keys, and their changes."""

from turnshelves.values import SORTS, key_of, row_key


def place_of(rows, row):
    """The index of the first of some ordered rows that is not before a row."""
    wanted = row_key(row)
    low = 0
    high = len(rows)
    while low < high:
        middle = (low + high) // 2
        if row_key(rows[middle]) < wanted:
            low = middle + 1
        else:
            high = middle
    return low


def put_fact(state, name, row):
    """Put a fact into the state itself."""
    rows = state.facts.setdefault(name, [])
    at = place_of(rows, row)
    if rows[at:at + 1] != [row]:
        rows.insert(at, row)


def put_item(state, item):
    """Put an item into the state itself, in the place of one with its key."""
    word = item[0]
    name = item[1]
    if word == "relation":
        state.relations[name] = item[2:]
        state.facts.setdefault(name, [])
    elif word == "fact":
        put_fact(state, name, item[2])
    elif word == "structure":
        state.structures[name] = item[2:]
    else:
        state.layouts[name] = item[2]


def named_items(state, word):
    """The dict of the state itself that has the items of a sort by name."""
    if word == "relation":
        return state.relations
    if word == "structure":
        return state.structures
    return state.layouts


def remove_key(state, key):
    """Remove the item with a key, if there is one, from the state itself."""
    sort, name, row = key
    word = SORTS[sort]
    if word == "fact":
        remove_fact(state, name, row)
    elif row == ():
        # Only the keys of facts have a row: with one there is no such item.
        named_items(state, word).pop(name, None)
    forget_facts(state, name)


def remove_fact(state, name, row):
    """Remove a fact, if it is there, from the state itself."""
    if state.has(name, row):
        rows = state.facts[name]
        del rows[place_of(rows, row)]


def forget_facts(state, name):
    """Remove the list of facts of a name that has neither facts nor a relation."""
    if name not in state.relations and state.facts.get(name) == []:
        del state.facts[name]


class State:
    """A set of items; of several items with one key the last one counts."""

    def __init__(self, items=()):
        self.relations = {}
        self.facts = {}
        self.structures = {}
        self.layouts = {}
        for item in items:
            put_item(self, item)

    def all_items(self):
        """The list of the items in the order of keys."""
        items = [("relation", name, *self.relations[name]) for name in sorted(self.relations)]
        for name in sorted(self.facts):
            items.extend([("fact", name, row) for row in self.facts[name]])
        for name in sorted(self.structures):
            items.append(("structure", name, *self.structures[name]))
        for name in sorted(self.layouts):
            items.append(("layout", name, self.layouts[name]))
        return items

    def has(self, relation, row):
        """True if the fact is there."""
        rows = self.facts.get(relation, [])
        at = place_of(rows, row)
        return rows[at:at + 1] == [row]

    def copy(self):
        """A State with the same items that shares nothing that can be modified."""
        made = State()
        made.relations = dict(self.relations)
        made.facts = {name: list(self.facts[name]) for name in self.facts}
        made.structures = dict(self.structures)
        made.layouts = dict(self.layouts)
        return made

    def change(self, changes):
        """A new State: this one after the changes, one after another."""
        made = self.copy()
        for word, told in changes:
            if word == "comes":
                put_item(made, told)
            else:
                remove_key(made, told)
        return made

    def same_schema(self, other):
        """True if relations, structures and layouts are equal."""
        if self.relations != other.relations:
            return False
        return self.structures == other.structures and self.layouts == other.layouts


def between(first, second):
    """The list of the changes that make the second state of the first."""
    before = {key_of(item): item for item in first.all_items()}
    after = {key_of(item): item for item in second.all_items()}
    goes = [("goes", key) for key in before if key not in after]
    comes = [("comes", after[key]) for key in after if before.get(key) != after[key]]
    return goes + comes
