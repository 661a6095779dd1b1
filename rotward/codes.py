"""Codes: data written as lists of bytes, and read back from these."""

from rotward.errors import DamagedData
from rotward.states import State

# The kinds of records; each is written as its index.
KINDS = ("folder", "file", "put", "trim", "move", "drop", "snap", "forget", "back")
CHARACTERS = "abcdefghijklmnopqrstuvwxyz0123456789_"
MOST_BYTES = 10


def write_number(number):
    """The written form of a number."""
    data = []
    while number > 127:
        data.append(number & 127 | 128)
        number = number >> 7
    data.append(number)
    return data


def write_list(rows):
    """The written form of a list whose items have these written forms."""
    data = write_number(len(rows))
    for row in rows:
        data.extend(row)
    return data


def write_numbers(numbers):
    """The written form of a list of numbers."""
    return write_list([write_number(number) for number in numbers])


def write_name(name):
    """The written form of a name."""
    return write_numbers([ord(character) for character in name])


def write_path(path):
    """The written form of a path."""
    return write_list([write_name(name) for name in path])


def write_thing(thing):
    """The written form of a folder, which is None, or of a file."""
    if thing is None:
        return [0]
    length, stripes = thing
    return [1] + write_number(length) + write_numbers(stripes)


def write_things(items):
    """The written form of pairs of a path and a thing."""
    return write_list([write_path(path) + write_thing(thing) for path, thing in items])


def write_state(state):
    """The written form of a state."""
    items, snapshots = state.data()
    rows = [write_name(name) + write_things(held) for name, held in snapshots]
    return write_things(items) + write_list(rows)


def write_record(record):
    """The written form of a record."""
    kind, what = record[0], record[1]
    data = write_number(KINDS.index(kind))
    if kind in ("snap", "forget", "back"):
        return data + write_name(what)
    data = data + write_path(what)
    if kind == "put":
        pairs = [write_number(block) + write_number(stripe) for block, stripe in record[3]]
        return data + write_number(record[2]) + write_list(pairs)
    if kind == "trim":
        return data + write_number(record[2]) + write_number(record[3])
    if kind == "move":
        return data + write_path(record[2])
    return data


def write_group(records):
    """The written form of the records of a commit."""
    return write_list([write_record(record) for record in records])


def write_image(commits, state):
    """The written form of an image."""
    return write_number(commits) + write_state(state)


def character_of(code):
    """The character of names that has a code."""
    for character in CHARACTERS:
        if ord(character) == code:
            return character
    raise DamagedData("a name has a character that is none of names")


class Reader:
    """Reads from a list of bytes what was written, one thing after another."""

    def __init__(self, data):
        self.at = 0
        self._data = list(data)

    def read_number(self):
        """Reads a number."""
        number = 0
        for place in range(MOST_BYTES):
            byte = self._next()
            number += (byte & 127) << 7 * place
            if byte < 128:
                if byte == 0 and place > 0:
                    raise DamagedData("a number has a needless last byte")
                return number
        raise DamagedData("a number has too many bytes")

    def read_path(self):
        """Reads a path."""
        return tuple([self._name() for _ in range(self._many())])

    def read_record(self):
        """Reads a record."""
        kind = KINDS[self._choice(len(KINDS))]
        if kind in ("snap", "forget", "back"):
            return (kind, self._name())
        path = self.read_path()
        if kind == "put":
            length = self.read_number()
            return (kind, path, length, self._pairs())
        if kind == "trim":
            length = self.read_number()
            return (kind, path, length, self.read_number())
        if kind == "move":
            return (kind, path, self.read_path())
        return (kind, path)

    def read_group(self):
        """Reads the records of a commit."""
        return [self.read_record() for _ in range(self._many())]

    def read_image(self, stripes, block):
        """Reads an image: the number of commits, and the State with so many stripes of such blocks."""
        commits = self.read_number()
        state = State(stripes, block)
        state.things = self._things()
        for _ in range(self._many()):
            name = self._name()
            state.snapshots[name] = self._things()
        return commits, state

    def end(self):
        """Raises DamagedData if bytes are left."""
        if self.at < len(self._data):
            raise DamagedData("bytes are left")

    def _next(self):
        """Reads one byte."""
        if self.at >= len(self._data):
            raise DamagedData("the bytes end too soon")
        byte = self._data[self.at]
        self.at += 1
        return byte

    def _many(self):
        """Reads the number of the items of a list."""
        many = self.read_number()
        if many > len(self._data) - self.at:
            raise DamagedData("a list has more items than bytes are left")
        return many

    def _choice(self, choices):
        """Reads a number that tells one of so many choices."""
        choice = self.read_number()
        if choice >= choices:
            raise DamagedData("there is no such choice")
        return choice

    def _name(self):
        """Reads a name."""
        return "".join([character_of(self.read_number()) for _ in range(self._many())])

    def _pairs(self):
        """Reads pairs of a block and a stripe."""
        pairs = []
        for _ in range(self._many()):
            block = self.read_number()
            pairs.append((block, self.read_number()))
        return tuple(pairs)

    def _thing(self):
        """Reads a thing: None for a folder, the length and the stripes of a file."""
        if self._choice(2) == 0:
            return None
        length = self.read_number()
        return (length, tuple([self.read_number() for _ in range(self._many())]))

    def _things(self):
        """Reads a dict of things."""
        things = {}
        for _ in range(self._many()):
            path = self.read_path()
            things[path] = self._thing()
        return things
