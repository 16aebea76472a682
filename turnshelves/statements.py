"""Statements: their problems, their answers, what they change and their calls."""

from turnshelves.errors import Refused
from turnshelves.questions import answer, calls, check, check_width
from turnshelves.shapes import pack, relation_shape, structure_shape

MOST_ROOM = 40
MOST_BUCKETS = 16
MOST_SECTORS = 8


def check_new(named, word, name):
    """Raise the problem of a name that one of the named items of a sort has."""
    if name in named:
        raise Refused(("exists", word, name))


def check_known(named, word, name):
    """Raise the problem of a name that none of the named things has."""
    if name not in named:
        raise Refused((word, name))


def check_repeated(names):
    """Raise the problem of the first name that stands in a tuple before."""
    for at, name in enumerate(names):
        if name in names[:at]:
            raise Refused(("repeated", name))


def check_limit(word, number, most):
    """Raise the problem of a number that is not from 1 to the most."""
    if number < 1 or number > most:
        raise Refused((word,))


def structures_over(state, relation):
    """The list of the structures over a relation, by name."""
    return [name for name in sorted(state.structures) if state.structures[name][0] == relation]


def check_full(state, relation):
    """Raise the problem of a relation or of structures over it that are full in a state."""
    if relation_shape(state, relation) is None:
        raise Refused(("full", "relation", relation))
    for name in structures_over(state, relation):
        check_structure_full(state, name)


def check_structure_full(state, name):
    """Raise the problem of a structure that is full in a state."""
    if structure_shape(state, name) is None:
        raise Refused(("full", "structure", name))


def say_relation(state, statement):
    """Answer a statement that makes a relation."""
    _, name, columns, room = statement
    check_new(state.relations, "relation", name)
    check_repeated(columns)
    check_limit("room", room, MOST_ROOM)
    return (None, state.change([("comes", statement)]))


def say_drop(state, statement):
    """Answer a statement that drops a relation."""
    _, name = statement
    check_known(state.relations, "no relation", name)
    users = structures_over(state, name)
    if users:
        raise Refused(("used", users[0]))
    changes = [("goes", (1, name, row)) for row in state.facts[name]]
    return (None, state.change([("goes", (0, name, ()))] + changes))


def say_add(state, statement):
    """Answer a statement that adds a fact."""
    _, name, row = statement
    check_width(state, name, len(row))
    if state.has(name, row):
        return (False, state.copy())
    if pack([row]) is None:
        raise Refused(("long",))
    made = state.change([("comes", ("fact", name, row))])
    check_full(made, name)
    return (True, made)


def say_remove(state, statement):
    """Answer a statement that removes a fact."""
    _, name, row = statement
    check_width(state, name, len(row))
    return (state.has(name, row), state.change([("goes", (1, name, row))]))


def say_structure(state, statement):
    """Answer a statement that offers a structure."""
    _, name, relation, columns, buckets, sectors = statement
    check_new(state.structures, "structure", name)
    check_known(state.relations, "no relation", relation)
    for column in columns:
        check_known(state.relations[relation][0], "no column", column)
    check_repeated(columns)
    check_limit("buckets", buckets, MOST_BUCKETS)
    check_limit("sectors", sectors, MOST_SECTORS)
    made = state.change([("comes", statement)])
    check_structure_full(made, name)
    return (None, made)


def say_take(state, statement):
    """Answer a statement that takes a structure away."""
    _, name = statement
    check_known(state.structures, "no structure", name)
    for layout in sorted(state.layouts):
        if name in state.layouts[layout]:
            raise Refused(("used", layout))
    return (None, state.change([("goes", (2, name, ()))]))


def say_layout(state, statement):
    """Answer a statement that offers a layout."""
    _, name, structures = statement
    check_new(state.layouts, "layout", name)
    for structure in structures:
        check_known(state.structures, "no structure", structure)
    check_repeated(structures)
    for layout in sorted(state.layouts):
        if sorted(state.layouts[layout]) == sorted(structures):
            raise Refused(("same", layout))
    return (None, state.change([("comes", statement)]))


def say_leave(state, statement):
    """Answer a statement that takes a layout away."""
    _, name = statement
    check_known(state.layouts, "no layout", name)
    return (None, state.change([("goes", (3, name, ()))]))


def say_ask(state, statement):
    """Answer a question."""
    return (answer(state, statement[1]), state.copy())


def say_show(state, statement):
    """Answer the statement that shows the items that are no facts."""
    shown = [item for item in state.all_items() if item[0] != "fact"]
    return (shown, state.copy())


SAYINGS = {
    "relation": say_relation,
    "drop": say_drop,
    "add": say_add,
    "remove": say_remove,
    "structure": say_structure,
    "take": say_take,
    "layout": say_layout,
    "leave": say_leave,
    "ask": say_ask,
    "show": say_show,
}


def say(state, statement):
    """The pair of the answer to a statement and the new state after it."""
    saying = SAYINGS[statement[0]]
    return saying(state, statement)


def question_calls(state, body):
    """The list of the calls of a body; a refused one has none."""
    try:
        check(state, body)
    except Refused:
        return []
    return calls(state, body)


def statement_calls(state, statement):
    """The list of the calls of a statement; a refused one has none."""
    word = statement[0]
    if word == "ask":
        return question_calls(state, statement[1])
    if word != "add" and word != "remove":
        return []
    try:
        say(state, statement)
    except Refused:
        return []
    return [(statement[1], statement[2])]
