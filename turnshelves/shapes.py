"""Shapes: the sectors of relations and structures, and their places."""

from turnshelves.codes import write_row

SECTOR_BYTES = 64


def pack(rows):
    """The list of the used sectors of some rows, or None if a row fits into no sector."""
    used = []
    for row in rows:
        code = write_row(row)
        # The first byte of a sector is the number of its rows.
        if len(code) > SECTOR_BYTES - 1:
            return None
        if not used or len(used[-1]) + len(code) > SECTOR_BYTES:
            used.append([0])
        sector = used[-1]
        sector[0] += 1
        sector.extend(code)
    return [sector + [0] * (SECTOR_BYTES - len(sector)) for sector in used]


def filled(rows, room):
    """The sectors of a room with some rows, or None if they do not fit into it."""
    used = pack(rows)
    if used is None or len(used) > room:
        return None
    return used + [[0] * SECTOR_BYTES for _ in range(room - len(used))]


def bucket_of_values(values, buckets):
    """The bucket, among so many, of a tuple of values."""
    number = 0
    for byte in write_row(values):
        # The remainder of the last number is the same if only remainders go on.
        number = (31 * number + byte + 1) % buckets
    return number


def column_places(state, structure):
    """The list of the places that the columns of a structure have in rows of its relation."""
    relation = state.structures[structure][0]
    columns = state.structures[structure][1]
    names = state.relations[relation][0]
    return [names.index(column) for column in columns]


def bucket(state, structure, row):
    """The bucket of a row in the structure with a name."""
    values = tuple([row[at] for at in column_places(state, structure)])
    return bucket_of_values(values, state.structures[structure][2])


def rows_by_bucket(state, structure):
    """For each bucket of a structure the list of its rows, in their order."""
    relation = state.structures[structure][0]
    lists = [[] for _ in range(state.structures[structure][2])]
    for row in state.facts[relation]:
        lists[bucket(state, structure, row)].append(row)
    return lists


def relation_shape(state, name):
    """The list of the sectors of a relation, or None if it is full."""
    return filled(state.facts[name], state.relations[name][1])


def structure_shape(state, name):
    """The list of the sectors of a structure, or None if it is full."""
    room = state.structures[name][3]
    sectors = []
    for rows in rows_by_bucket(state, name):
        part = filled(rows, room)
        if part is None:
            return None
        sectors.extend(part)
    return sectors


def shape_of(state, name):
    """The shape of a relation or a structure, by its sort and name."""
    sort, told = name
    if sort == "relation":
        return relation_shape(state, told)
    return structure_shape(state, told)


def room_of(state, name):
    """The number of sectors of the room of a relation or a structure, by its sort and name."""
    sort, told = name
    if sort == "relation":
        return state.relations[told][1]
    return state.structures[told][2] * state.structures[told][3]


def all_names(state):
    """The list of the sorts and names of what has a place, in the order of the places."""
    relations = [("relation", name) for name in sorted(state.relations)]
    return relations + [("structure", name) for name in sorted(state.structures)]


def places(state):
    """A dict with the first sector of each relation and structure, by its sort and name."""
    told = {}
    free = 0
    for name in all_names(state):
        told[name] = free
        free += room_of(state, name)
    return told


def room_needed(state):
    """The number of sectors of all places."""
    return sum([room_of(state, name) for name in all_names(state)])
