"""Costs: the sectors that calls read and changes write, and what it costs to lay layouts."""

from turnshelves.shapes import bucket_of_values, column_places, pack, room_of, rows_by_bucket, shape_of


def offered(state):
    """The list of the offered layouts, in the order of their names."""
    if not state.layouts:
        return [()]
    return [state.layouts[name] for name in sorted(state.layouts)]


def used_counts(state, name):
    """For each bucket of a structure the number of its used sectors; a relation is one bucket."""
    sort, told = name
    if sort == "relation":
        return [len(pack(state.facts[told]))]
    return [len(pack(rows)) for rows in rows_by_bucket(state, told)]


def bucket_room(state, name):
    """The number of sectors that each bucket of a structure has; a relation is one bucket."""
    sort, told = name
    if sort == "relation":
        return state.relations[told][1]
    return state.structures[told][3]


def differing(before, after, name):
    """The list of the sectors in which two shapes of a relation or a structure differ."""
    pairs = list(zip(shape_of(before, name), shape_of(after, name)))
    return [(name, at) for at, (old, new) in enumerate(pairs) if old != new]


class Request:
    """What some calls read in a state, and what is written when it becomes another one.

    The layouts share much of what they read and write: it is found once for all of them.
    """

    def __init__(self, before, after, calls):
        self.before = before
        self.after = after
        self.calls = list({call: True for call in calls})
        self.used = {}
        self.reads = {}
        self.changed = {}

    def bucket_sectors(self, name, number):
        """The list of the used sectors of a bucket."""
        if name not in self.used:
            self.used[name] = used_counts(self.before, name)
        first = number * bucket_room(self.before, name)
        return [(name, first + at) for at in range(self.used[name][number])]

    def in_structure(self, structure, call):
        """The list of the sectors that are read for a call in a structure, or None if it has not the values."""
        _, pattern = call
        values = tuple([pattern[at] for at in column_places(self.before, structure)])
        if None in values:
            return None
        number = bucket_of_values(values, self.before.structures[structure][2])
        return self.bucket_sectors(("structure", structure), number)

    def found_in_structure(self, structure, call):
        """What in_structure tells, found once for each structure and call."""
        pair = (structure, call)
        if pair not in self.reads:
            self.reads[pair] = self.in_structure(structure, call)
        return self.reads[pair]

    def call_sectors(self, layout, call):
        """The list of the sectors that are read for one call on a layout."""
        relation, pattern = call
        if relation not in self.before.relations or len(pattern) != len(self.before.relations[relation][0]):
            return []
        best = self.bucket_sectors(("relation", relation), 0)
        for structure in sorted(layout):
            if self.before.structures[structure][0] == relation:
                sectors = self.found_in_structure(structure, call)
                if sectors is not None and len(sectors) < len(best):
                    best = sectors
        return best

    def sectors_read(self, layout):
        """The sorted list of the sectors that are read on a layout."""
        return sorted({sector: True for call in self.calls for sector in self.call_sectors(layout, call)})

    def changed_sectors(self, relation, name):
        """The list of the sectors of a relation, or of a structure over it, that are written."""
        if name not in self.changed:
            same = self.before.facts[relation] == self.after.facts[relation]
            self.changed[name] = [] if same else differing(self.before, self.after, name)
        return self.changed[name]

    def sectors_written(self, layout):
        """The list of the sectors that are written on a layout, in the order in which they are."""
        sectors = []
        for relation in sorted(self.before.relations):
            sectors.extend(self.changed_sectors(relation, ("relation", relation)))
        for structure in sorted(layout):
            relation = self.before.structures[structure][0]
            sectors.extend(self.changed_sectors(relation, ("structure", structure)))
        return sectors

    def cost_on(self, layout):
        """The number of the sectors that are read and written on a layout."""
        return len(self.sectors_read(layout)) + len(self.sectors_written(layout))

    def all_costs(self):
        """The list of the costs on the offered layouts."""
        return [self.cost_on(layout) for layout in offered(self.before)]


def read_sectors(state, layout, call):
    """The sorted list of the sectors that are read for a call."""
    return Request(state, state, [call]).sectors_read(layout)


def all_read(state, layout, calls):
    """The sorted list of the sectors that are read for some calls."""
    return Request(state, state, calls).sectors_read(layout)


def written(before, after, layout):
    """The list of the sectors that are written when a state becomes another one with its schema."""
    return Request(before, after, []).sectors_written(layout)


def cost(before, after, layout, calls):
    """The cost of some calls in the state before, and of the change, on a layout."""
    return Request(before, after, calls).cost_on(layout)


def excesses(before, after, calls):
    """The list of what the cost on each offered layout is more than the least one."""
    numbers = Request(before, after, calls).all_costs()
    least = min(numbers)
    return [number - least for number in numbers]


def laying(state, structure):
    """What it costs to lay a structure."""
    relation = state.structures[structure][0]
    return room_of(state, ("relation", relation)) + room_of(state, ("structure", structure))


def stands(state, layout):
    """What stands of a layout."""
    return sum([laying(state, structure) for structure in layout])


def going(state, first, second):
    """What it costs to go from a layout to a second one."""
    return sum([laying(state, structure) for structure in second if structure not in first])


def way(state, first, second):
    """The way between two layouts."""
    return going(state, first, second) + going(state, second, first)
