"""The orders of values, rows and keys, and the keys of items."""

# The index of a word is the sort of the items that begin with it.
SORTS = ("relation", "fact", "structure", "layout")


def value_key(value):
    """A tuple that stands among others as its value stands among values."""
    if isinstance(value, str):
        return (1, value)
    return (0, value)


def row_key(row):
    """A tuple that stands among others as its row stands among rows."""
    return tuple([value_key(value) for value in row])


def key_of(item):
    """The key of an item: its sort, its name and, of a fact, its row."""
    word = item[0]
    if word == "fact":
        return (SORTS.index(word), item[1], item[2])
    return (SORTS.index(word), item[1], ())


def key_order(key):
    """A tuple that stands among others as its key stands among keys."""
    sort, name, row = key
    return (sort, name, row_key(row))
