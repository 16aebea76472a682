"""Questions: the problems of a body, its answer and its calls.

A way is a dict with the values of the variables that were found on it.
"""

from turnshelves.errors import Refused
from turnshelves.values import row_key, value_key


def variables_in(terms):
    """The list of the variables of some terms, each once, in their order."""
    names = []
    for term in terms:
        if term[0] == "variable" and term[1] not in names:
            names.append(term[1])
    return names


def check_term(term, bound):
    """Raise the problem of a term that must have a value."""
    if term[0] == "any":
        raise Refused(("any",))
    if term[0] == "variable" and term[1] not in bound:
        raise Refused(("unbound", term[1]))


def check_width(state, relation, many):
    """Raise the problem of so many terms or values in the place of a row."""
    if relation not in state.relations:
        raise Refused(("no relation", relation))
    if many != len(state.relations[relation][0]):
        raise Refused(("width", relation))


def check_total(literal, bound):
    """Raise the problem of a total, apart from those of its relation."""
    names = variables_in(literal[-1])
    if literal[1] in names:
        raise Refused(("own total", literal[1]))
    if literal[0] != "count":
        check_term(literal[2], bound + names)


def check_literal(state, literal, bound):
    """Raise the problem of a literal; returns the variables that it gives a value."""
    if literal[0] == "compare":
        check_term(literal[2], bound)
        check_term(literal[3], bound)
        return []
    check_width(state, literal[-2], len(literal[-1]))
    names = variables_in(literal[-1])
    if literal[0] == "fact":
        return names
    if literal[0] == "not":
        for name in names:
            check_term(("variable", name), bound)
        return []
    check_total(literal, bound)
    return [literal[1]]


def check(state, body):
    """The columns of the answer to a body, or its problem, which is raised."""
    bound = []
    for literal in body:
        names = check_literal(state, literal, bound)
        bound.extend([name for name in names if name not in bound])
    return tuple(bound)


def meets(call, row):
    """True if a row meets a call."""
    pattern = call[1]
    if len(pattern) != len(row):
        return False
    return all([wanted is None or wanted == value for wanted, value in zip(pattern, row)])


def term_value(term, way):
    """The value that a term has on a way, or None."""
    if term[0] == "value":
        return term[1]
    if term[0] == "variable":
        return way.get(term[1])
    return None


def pattern_of(terms, way):
    """The pattern of the call of some terms on a way."""
    return tuple([term_value(term, way) for term in terms])


def fits(terms, row):
    """True if some terms without values would meet a row."""
    if len(terms) != len(row):
        return False
    values = {}
    for term, value in zip(terms, row):
        if term[0] == "variable" and values.setdefault(term[1], value) != value:
            return False
    return True


class Finder:
    """The rows that the terms of a literal can meet, by the values that the terms have.

    The same variables have a value on all ways before a literal, so that one
    table serves all of them: with one way's pattern it is known where the
    patterns of the others have values.
    """

    def __init__(self, rows, terms, pattern):
        self.places = [at for at, value in enumerate(pattern) if value is not None]
        self.table = {}
        for row in rows:
            if fits(terms, row):
                self.table.setdefault(self.values_at(row), []).append(row)

    def values_at(self, row):
        """The values of a row or a pattern where the terms have values."""
        return tuple([row[at] for at in self.places])

    def found(self, pattern):
        """The list of the rows that the terms meet on the way of a pattern."""
        return self.table.get(self.values_at(pattern), [])


def compared(operator, first, second):
    """True if a comparison of two values holds."""
    low = value_key(first)
    high = value_key(second)
    if operator == "=":
        return low == high
    if operator == "<>":
        return low != high
    if operator == "<":
        return low < high
    if operator == "<=":
        return low <= high
    if operator == ">":
        return low > high
    return low >= high


def total_term_values(literal, rows, way):
    """The values that the term of a total has over the rows that its terms meet."""
    term = literal[2]
    value = term_value(term, way)
    if value is not None:
        return [value for _ in rows]
    at = literal[-1].index(term)
    return [row[at] for row in rows]


def total(literal, rows, way):
    """What a total tells of the rows that its terms meet, or None."""
    if literal[0] == "count":
        return len(rows)
    values = total_term_values(literal, rows, way)
    if literal[0] == "sum":
        if any([isinstance(value, str) for value in values]):
            return None
        return sum(values)
    if not values:
        return None
    if literal[0] == "least":
        return min(values, key=value_key)
    return max(values, key=value_key)


def way_with_row(terms, row, way):
    """The way that goes on from a way by the choice of a row."""
    made = dict(way)
    for term, value in zip(terms, row):
        if term[0] == "variable":
            made[term[1]] = value
    return made


def ways_on(literal, rows, way):
    """The ways that go on from a way if a literal's terms meet some rows there."""
    if literal[0] == "fact":
        return [way_with_row(literal[-1], row, way) for row in rows]
    if literal[0] == "not":
        return [] if rows else [way]
    name = literal[1]
    value = total(literal, rows, way)
    if value is None or way.get(name, value) != value:
        return []
    return [{**way, name: value}]


def follow_reading(state, literal, ways):
    """The ways after a literal with a relation, and its calls."""
    if not ways:
        return [], []
    relation = literal[-2]
    terms = literal[-1]
    finder = Finder(state.facts.get(relation, []), terms, pattern_of(terms, ways[0]))
    after = []
    made = []
    for way in ways:
        pattern = pattern_of(terms, way)
        made.append((relation, pattern))
        after.extend(ways_on(literal, finder.found(pattern), way))
    return after, made


def follow(state, body):
    """The ways on which a body holds, and its calls."""
    ways = [{}]
    told = []
    for literal in body:
        if literal[0] == "compare":
            _, operator, first, second = literal
            ways = [way for way in ways if compared(operator, term_value(first, way), term_value(second, way))]
        else:
            ways, made = follow_reading(state, literal, ways)
            told.extend(made)
    return ways, told


def answer(state, body):
    """The pair of the columns and the list of rows of the answer to a body."""
    columns = check(state, body)
    ways, _ = follow(state, body)
    rows = {tuple([way[name] for name in columns]): True for way in ways}
    return (columns, sorted(rows, key=row_key))


def calls(state, body):
    """The list of the calls of a body that check accepts."""
    _, told = follow(state, body)
    return told
