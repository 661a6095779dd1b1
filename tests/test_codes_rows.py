"""Point 25: what was written and then damaged at random, against a reading written apart."""

import unittest

from rotward.codes import Reader
from rotward.errors import DamagedData
from tests.code_rules import GROUP, IMAGE, NUMBER, PATH, RECORD, Damaged, Data, path_of, plain_image
from tests.code_rules import plain_path, plain_record, read, record_of, snapshots_of, things_of, write


def outcome(form, told, data):
    """What the rule reads, as a Reader tells it, and the place behind it; None for damaged bytes."""
    try:
        value, rest = read(form, data)
    except Damaged:
        return None
    return told(value), len(data) - len(rest)


def program(method, data):
    """The same of a Reader."""
    reader = Reader(data)
    try:
        if method != "read_image":
            return getattr(reader, method)(), reader.at
        commits, state = reader.read_image(9, 4)
        return (commits, state.things, state.snapshots), reader.at
    except DamagedData:
        return None


class TestRows(unittest.TestCase):
    def compare(self, form, method, told, data):
        right = outcome(form, told, data)
        self.assertEqual(program(method, data), right, data)
        return right

    def run_rows(self, seed, form, method, told, make, many):
        """Compares many written things, each damaged in some ways; tells how many were read."""
        chance = Data(seed)
        read_well = 0
        for _ in range(many):
            data = write(form, make(chance))
            self.assertEqual(self.compare(form, method, told, data)[1], len(data))
            for _ in range(6):
                damaged = chance.damage(data)
                read_well += self.compare(form, method, told, damaged) is not None
        self.assertGreater(read_well, many)
        self.assertLess(read_well, 6 * many - many // 2)

    def test_numbers(self):
        self.run_rows(1, NUMBER, "read_number", lambda value: value, Data.number, 800)

    def test_paths(self):
        self.run_rows(2, PATH, "read_path", path_of, lambda data: plain_path(data.path()), 600)

    def test_records(self):
        self.run_rows(3, RECORD, "read_record", record_of, lambda data: plain_record(data.record()), 900)

    def test_groups(self):
        self.run_rows(4, GROUP, "read_group", lambda rows: [record_of(row) for row in rows],
                      lambda data: [plain_record(row) for row in data.group()], 500)

    def test_images(self):
        def told(value):
            return value[0], things_of(value[1]), snapshots_of(value[2])

        def make(data):
            return plain_image(data.number(), data.things(), data.snapshots())

        self.run_rows(5, IMAGE, "read_image", told, make, 500)

    def test_short_rows_of_few_bytes(self):
        rows = [[]]
        for _ in range(5):
            rows = [row + [byte] for row in rows for byte in (0, 1, 2, 97, 128)]
            for row in rows:
                self.compare(RECORD, "read_record", record_of, row)
                self.compare(PATH, "read_path", path_of, row)
