"""Point 25 once more, written apart from the program: one table of forms, to write and to read.

A form is "number", a list with the form of the items, a tuple of forms one after another, or a
dict with the forms that follow a first byte. Written so, a value is a number, a list, a tuple of
values, or a pair of a first byte and a tuple.
"""

from random import Random

WORDS = ["folder", "file", "put", "trim", "move", "drop", "snap", "forget", "back"]
LETTERS = "0123456789_abcdefghijklmnopqrstuvwxyz"

NUMBER = "number"
NAME = [NUMBER]
PATH = [NAME]
THING = {0: (), 1: (NUMBER, [NUMBER])}
THINGS = [(PATH, THING)]
RECORD = {0: (PATH,), 1: (PATH,), 2: (PATH, NUMBER, [(NUMBER, NUMBER)]), 3: (PATH, NUMBER, NUMBER),
          4: (PATH, PATH), 5: (PATH,), 6: (NAME,), 7: (NAME,), 8: (NAME,)}
GROUP = [RECORD]
IMAGE = (NUMBER, THINGS, [(NAME, THINGS)])


class Damaged(Exception):
    """The bytes are no written form."""


def digits(number):
    """The bytes of a number."""
    text = f"{number:b}"
    text = text.zfill(-(-len(text) // 7) * 7)
    parts = [text[at:at + 7] for at in range(0, len(text), 7)]
    return [int("01"[at > 0] + part, 2) for at, part in enumerate(parts)][::-1]


def write(form, value):
    """The bytes of a value."""
    if form == NUMBER:
        return digits(value)
    if isinstance(form, list):
        return digits(len(value)) + [byte for item in value for byte in write(form[0], item)]
    if isinstance(form, dict):
        return [value[0]] + write(form[value[0]], value[1])
    return [byte for part, item in zip(form, value, strict=True) for byte in write(part, item)]


def read(form, data):
    """The value that the first bytes are, and the bytes behind them."""
    if form == NUMBER:
        size = 1 + next((at for at, byte in enumerate(data) if byte < 128), 99)
        number = sum((byte % 128) * 128 ** at for at, byte in enumerate(data[:size]))
        if size > 10 or digits(number) != data[:size]:
            raise Damaged
        return number, data[size:]
    if isinstance(form, list):
        many, data = read(NUMBER, data)
        if many > len(data):
            raise Damaged
        value = []
        for _ in range(many):
            item, data = read(form[0], data)
            value.append(item)
        # A list of stripes has an equal form, but its numbers are no characters.
        if form is NAME and not set(value) <= set(LETTERS.encode()):
            raise Damaged
        return value, data
    if isinstance(form, dict):
        if not data or data[0] not in form:
            raise Damaged
        value, rest = read(form[data[0]], data[1:])
        return (data[0], value), rest
    values = []
    for part in form:
        item, data = read(part, data)
        values.append(item)
    return tuple(values), data


def plain_name(name):
    return [ord(letter) for letter in name]


def plain_path(path):
    return [plain_name(name) for name in path]


def plain_record(record):
    """A record as a value of its form."""
    number = WORDS.index(record[0])
    if number > 5:
        return number, (plain_name(record[1]),)
    rest = record[2:]
    if number == 2:
        rest = (record[2], list(record[3]))
    elif number == 4:
        rest = (plain_path(record[2]),)
    return number, (plain_path(record[1]),) + rest


def plain_things(things):
    """A dict of things as a value of its form."""
    rows = []
    for path in sorted(things):
        thing = things[path]
        rows.append((plain_path(path), (0, ()) if thing is None else (1, (thing[0], list(thing[1])))))
    return rows


def plain_image(commits, things, snapshots):
    """An image as a value of its form."""
    rows = [(plain_name(name), plain_things(snapshots[name])) for name in sorted(snapshots)]
    return commits, plain_things(things), rows


def name_of(codes):
    return "".join(map(chr, codes))


def path_of(names):
    return tuple(map(name_of, names))


def record_of(value):
    """The record that is such a value."""
    number, parts = value
    word = WORDS[number]
    if number > 5:
        return (word, name_of(parts[0]))
    rest = parts[1:]
    if number == 2:
        rest = (parts[1], tuple(parts[2]))
    elif number == 4:
        rest = (path_of(parts[1]),)
    return (word, path_of(parts[0])) + rest


def things_of(rows):
    """The dict of things that is such a value."""
    return {path_of(path): None if number == 0 else (parts[0], tuple(parts[1]))
            for path, (number, parts) in rows}


def snapshots_of(rows):
    return {name_of(name): things_of(things) for name, things in rows}


class Data:
    """Records and things at random; what they tell need not be possible."""

    def __init__(self, seed):
        self.random = Random(seed)

    def number(self):
        bits = self.random.choice([1, 3, 6, 7, 8, 14, 15, 21, 63, 64, 70])
        return self.random.choice([self.random.randrange(2 ** bits), 2 ** bits - 1])

    def many(self, most=3):
        return range(self.random.choice([0, 1, 1, 2, most]))

    def name(self):
        return "".join(self.random.choices(LETTERS, k=self.random.choice([0, 1, 2, 2, 12, 13])))

    def path(self):
        return tuple(self.name() for _ in self.many(7))

    def record(self):
        word = self.random.choice(WORDS + ["put"] * 3 + ["trim", "move"])
        if word in ("snap", "forget", "back"):
            return (word, self.name())
        rest = ()
        if word == "put":
            rest = (self.number(), tuple((self.number(), self.number()) for _ in self.many(5)))
        elif word == "trim":
            rest = (self.number(), self.number())
        elif word == "move":
            rest = (self.path(),)
        return (word, self.path()) + rest

    def group(self):
        return [self.record() for _ in self.many(6)]

    def thing(self):
        if self.random.randrange(3) == 0:
            return None
        return (self.number(), tuple(self.number() for _ in self.many(5)))

    def things(self):
        return {self.path(): self.thing() for _ in self.many(5)}

    def snapshots(self):
        return {self.name(): self.things() for _ in self.many()}

    def damage(self, data):
        """The bytes after some small damage, and with others behind them."""
        data = list(data)
        at = self.random.randrange(len(data) + 1)
        kind = self.random.randrange(5)
        byte = self.random.choice([0, 1, 2, 97, 127, 128, 129, 255, self.random.randrange(256)])
        if kind == 0:
            return data[:at]
        if kind == 1:
            data[at:at + 1] = [byte]
        elif kind == 2:
            data.insert(at, byte)
        elif kind == 3:
            del data[at:at + 1]
        return data + self.random.choices(range(256), k=self.random.choice([0, 0, 1, 9]))
