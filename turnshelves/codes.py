"""The written forms: lists of integers from 0 to 255, and how they are read."""

from turnshelves.errors import DamagedData
from turnshelves.states import State
from turnshelves.values import SORTS

# The characters of values and names, in the order of their codes: these begin
# at the code of the space, and the percent sign alone is left out.
CHARACTERS = " !\"#$&'()*+,-./0123456789:;<=>?@ABCDEFGHIJKLMNOPQRSTUVWXYZ[\\]^_`abcdefghijklmnopqrstuvwxyz{|}~"
FIRST_CODE = 32
LAST_CODE = 126
LEFT_OUT_CODE = 37

MOST_NUMBER_BYTES = 60


def write_number(number):
    """The written form of a natural number."""
    data = []
    while number > 127:
        data.append(128 + (number & 127))
        number = number >> 7
    data.append(number)
    return data


def write_integer(number):
    """The written form of an integer."""
    sign = 1 if number < 0 else 0
    return [sign] + write_number(abs(number))


def write_string(text):
    """The written form of a string or a name."""
    return write_number(len(text)) + [ord(char) for char in text]


def write_names(names):
    """The written form of a list of names."""
    data = write_number(len(names))
    for name in names:
        data.extend(write_string(name))
    return data


def write_value(value):
    """The written form of a value."""
    if isinstance(value, str):
        return [1] + write_string(value)
    return [0] + write_integer(value)


def write_row(row):
    """The written form of a row."""
    data = write_number(len(row))
    for value in row:
        data.extend(write_value(value))
    return data


def write_item(item):
    """The written form of an item."""
    word = item[0]
    data = [SORTS.index(word)] + write_string(item[1])
    if word == "relation":
        return data + write_names(item[2]) + write_number(item[3])
    if word == "fact":
        return data + write_row(item[2])
    if word == "structure":
        sizes = write_number(item[4]) + write_number(item[5])
        return data + write_string(item[2]) + write_names(item[3]) + sizes
    return data + write_names(item[2])


def write_change(change):
    """The written form of a change."""
    word, told = change
    if word == "comes":
        return [0] + write_item(told)
    sort, name, row = told
    return [1, sort] + write_string(name) + write_row(row)


def write_changes(changes):
    """The written form of a list of changes."""
    data = write_number(len(changes))
    for change in changes:
        data.extend(write_change(change))
    return data


def write_image(commits, state):
    """The written form of a number of commits and the items of a state."""
    items = state.all_items()
    data = write_number(commits) + write_number(len(items))
    for item in items:
        data.extend(write_item(item))
    return data


def character(code):
    """The character with a code, if it is one of values and names."""
    if code < FIRST_CODE or code > LAST_CODE or code == LEFT_OUT_CODE:
        raise DamagedData("a code is not that of a character")
    if code < LEFT_OUT_CODE:
        return CHARACTERS[code - FIRST_CODE]
    return CHARACTERS[code - FIRST_CODE - 1]


class Reader:
    """Reads written forms one after another from a list of bytes."""

    def __init__(self, data):
        self.data = list(data)
        self.at = 0

    def left(self):
        """The number of bytes that are left."""
        return len(self.data) - self.at

    def read_byte(self):
        """The next byte."""
        if self.left() < 1:
            raise DamagedData("the bytes end too early")
        byte = self.data[self.at]
        self.at += 1
        return byte

    def read_choice(self, many):
        """The next byte, which stands for one of so many things."""
        byte = self.read_byte()
        if byte >= many:
            raise DamagedData("a byte stands for nothing")
        return byte

    def read_number(self):
        """The natural number that comes next."""
        number = 0
        scale = 1
        for place in range(MOST_NUMBER_BYTES):
            byte = self.read_byte()
            if byte < 128:
                if byte == 0 and place > 0:
                    raise DamagedData("the last byte of a number is 0")
                return number + byte * scale
            number += (byte - 128) * scale
            scale *= 128
        raise DamagedData("a number has too many bytes")

    def read_length(self):
        """The number of items of the list that comes next."""
        many = self.read_number()
        # Each item has a byte at least. To look first keeps a damaged number
        # from being taken for a list that goes on for ever.
        if many > self.left():
            raise DamagedData("a list has more items than bytes are left")
        return many

    def read_integer(self):
        """The integer that comes next."""
        sign = self.read_choice(2)
        number = self.read_number()
        if sign == 0:
            return number
        if number == 0:
            raise DamagedData("a zero is negative")
        return -number

    def read_string(self):
        """The string that comes next."""
        return "".join([character(self.read_byte()) for _ in range(self.read_length())])

    def read_names(self):
        """The tuple of the names of the list that comes next."""
        return tuple([self.read_string() for _ in range(self.read_length())])

    def read_value(self):
        """The value that comes next."""
        if self.read_choice(2) == 1:
            return self.read_string()
        return self.read_integer()

    def read_row(self):
        """The row that comes next."""
        return tuple([self.read_value() for _ in range(self.read_length())])

    def read_item(self):
        """The item that comes next."""
        word = SORTS[self.read_choice(4)]
        name = self.read_string()
        if word == "relation":
            columns = self.read_names()
            return (word, name, columns, self.read_number())
        if word == "fact":
            return (word, name, self.read_row())
        if word == "structure":
            relation = self.read_string()
            columns = self.read_names()
            buckets = self.read_number()
            return (word, name, relation, columns, buckets, self.read_number())
        return (word, name, self.read_names())

    def read_change(self):
        """The change that comes next."""
        if self.read_choice(2) == 0:
            return ("comes", self.read_item())
        sort = self.read_choice(4)
        name = self.read_string()
        return ("goes", (sort, name, self.read_row()))

    def read_changes(self):
        """The list of changes that comes next."""
        return [self.read_change() for _ in range(self.read_length())]

    def read_image(self):
        """The pair of the number of commits and the State of the image that comes next."""
        commits = self.read_number()
        items = [self.read_item() for _ in range(self.read_length())]
        return (commits, State(items))

    def end(self):
        """Raise an error if bytes are left."""
        if self.left() > 0:
            raise DamagedData("bytes are left")
