"""Point 25: what a Reader reads, by hand."""

import unittest

from rotward.codes import Reader, write_group, write_image, write_number, write_path, write_record
from rotward.errors import DamagedData
from rotward.states import State
from tests.test_codes_write import NUMBERS, RECORDS, state_of

TAILS = [[], [0], [1], [255] * 12, [128], [97, 0, 3]]


class ReaderCase(unittest.TestCase):
    def read(self, method, data, *arguments):
        """What a method reads; what is passed is checked to stay as it is."""
        given = list(data)
        reader = Reader(given)
        self.assertEqual(reader.at, 0)
        told = getattr(reader, method)(*arguments)
        self.assertEqual(given, list(data))
        return told, reader

    def reads(self, method, data, value, *arguments):
        """The bytes are read as the value, whatever follows."""
        for tail in TAILS:
            told, reader = self.read(method, data + tail, *arguments)
            if method == "read_image":
                told = (told[0], told[1].things, told[1].snapshots)
            self.assertEqual(told, value)
            self.assertEqual(reader.at, len(data))
            if tail:
                with self.assertRaises(DamagedData):
                    reader.end()
            else:
                self.assertIsNone(reader.end())
            self.assertEqual(reader.at, len(data))

    def damaged(self, method, data, *arguments):
        with self.assertRaises(DamagedData, msg=data):
            self.read(method, data, *arguments)

    def all_cut(self, method, data, *arguments):
        """The bytes are damaged if some of the last ones are missing."""
        for size in range(len(data)):
            self.damaged(method, data[:size], *arguments)


class TestNumbers(ReaderCase):
    def test_numbers(self):
        for number, data in NUMBERS:
            self.reads("read_number", data, number)
            self.all_cut("read_number", data)

    def test_of_one_nine_and_ten_bytes(self):
        for size in range(1, 11):
            self.reads("read_number", [255] * (size - 1) + [127], 2 ** (7 * size) - 1)
            self.reads("read_number", [128] * (size - 1) + [1], 2 ** (7 * size - 7))

    def test_of_eleven_bytes(self):
        for data in ([255] * 10 + [127], [128] * 10 + [1], [128] * 10 + [0], [128] * 10, [255] * 40):
            self.damaged("read_number", data)

    def test_with_a_needless_last_byte(self):
        self.damaged("read_number", [128, 0])
        self.damaged("read_number", [129, 0])
        for size in range(1, 10):
            self.damaged("read_number", [255] * size + [0])
            self.damaged("read_number", [128] * size + [0, 1])

    def test_zeros_inside(self):
        self.reads("read_number", [128, 128, 1], 2 ** 14)
        self.reads("read_number", [129, 128, 2], 2 ** 15 + 1)

    def test_one_after_another(self):
        reader = Reader([byte for _, data in NUMBERS for byte in data])
        at = 0
        for number, data in NUMBERS:
            self.assertEqual(reader.at, at)
            self.assertEqual(reader.read_number(), number)
            at += len(data)
        self.assertIsNone(reader.end())
        with self.assertRaises(DamagedData):
            reader.read_number()


class TestPaths(ReaderCase):
    def test_paths(self):
        for path in [(), ("a",), ("a", "b_"), ("abc", "z", "0_9"), ("x" * 12,) * 6, ("y" * 13,) * 7, ("",)]:
            self.reads("read_path", write_path(path), path)
            self.all_cut("read_path", write_path(path))

    def test_all_characters_of_names_and_none_else(self):
        letters = b"abcdefghijklmnopqrstuvwxyz0123456789_"
        for code in range(128):
            if code in letters:
                self.reads("read_path", [1, 1, code], (chr(code),))
                self.reads("read_path", [1, 3, 97, code, 48], ("a" + chr(code) + "0",))
            else:
                self.damaged("read_path", [1, 1, code])
                self.damaged("read_path", [1, 2, 97, code])

    def test_longer_character_codes(self):
        for data in ([225, 0], [128, 1], [224, 1], [97 + 128, 1], [255] * 9 + [127]):
            self.damaged("read_path", [1, 1] + data)
            self.damaged("read_path", [1, 1] + data + [97] * 12)

    def test_as_many_items_as_bytes_are_left(self):
        for many in (1, 2, 3, 127, 128, 300):
            self.reads("read_path", write_number(many) + [0] * many, ("",) * many)
            self.damaged("read_path", write_number(many + 1) + [0] * many)
            self.reads("read_path", [1] + write_number(many) + [97] * many, ("a" * many,))
            self.damaged("read_path", [1] + write_number(many + 1) + [97] * many)

    def test_very_many_items(self):
        self.damaged("read_path", [255] * 9 + [127])
        self.damaged("read_path", [255] * 9 + [127] + [0] * 200)
        self.damaged("read_path", [1] + [255] * 9 + [127] + [97] * 200)


class TestRecords(ReaderCase):
    def test_records(self):
        for record, data in RECORDS:
            self.reads("read_record", data, record)
            self.all_cut("read_record", data)

    def test_records_consist_of_tuples(self):
        record, _ = self.read("read_record", RECORDS[2][1])
        for part in (record, record[1], record[3], record[3][0]):
            self.assertIsInstance(part, tuple)

    def test_first_bytes_beyond_the_choices(self):
        for kind in (9, 10, 97, 127):
            self.damaged("read_record", [kind, 1, 1, 97, 1, 1, 1, 1, 1, 1])
            self.damaged("read_record", [kind, 0, 0, 0, 0])
        for first in ([128, 0], [136, 0], [128, 1], [255], [130, 128, 0]):
            self.damaged("read_record", first + [1, 1, 97, 0, 0, 0, 0])

    def test_all_first_bytes(self):
        kinds = [self.read("read_record", [kind, 0, 0, 0])[0] for kind in range(9)]
        self.assertEqual(kinds, [
            ("folder", ()), ("file", ()), ("put", (), 0, ()), ("trim", (), 0, 0), ("move", (), ()),
            ("drop", ()), ("snap", ""), ("forget", ""), ("back", "")])

    def test_pairs_of_a_put(self):
        self.reads("read_record", [2, 0, 0, 2, 1, 2, 3, 4], ("put", (), 0, ((1, 2), (3, 4))))
        self.damaged("read_record", [2, 0, 0, 2, 1, 2, 3])
        self.damaged("read_record", [2, 0, 0, 4, 1, 2, 3, 4])
        self.damaged("read_record", [2, 0, 0, 5, 1, 2, 3, 4])

    def test_large_numbers(self):
        record = ("put", ("a",), 2 ** 70 - 1, ((2 ** 70 - 1, 2 ** 70 - 2),))
        self.reads("read_record", write_record(record), record)
        record = ("trim", ("a",), 2 ** 70 - 1, 2 ** 70 - 3)
        self.reads("read_record", write_record(record), record)

    def test_groups(self):
        rows = [record for record, _ in RECORDS]
        for group in ([], rows[:1], rows, rows * 12):
            self.reads("read_group", write_group(group), group)
        self.all_cut("read_group", write_group(rows))
        self.assertIsInstance(self.read("read_group", [0])[0], list)

    def test_damaged_groups(self):
        self.damaged("read_group", [1, 9, 0])
        self.damaged("read_group", [2, 0, 0])
        self.damaged("read_group", [2, 0, 0, 9, 0])
        self.damaged("read_group", [3, 6, 0])
        self.damaged("read_group", [1, 6, 1, 65])


class TestImages(ReaderCase):
    def test_images(self):
        things = {("a",): None, ("a", "b_"): (0, ()), ("b",): (200, (3, 130))}
        snapshots = {"s": {("a",): (1, (0,)), ("b",): None}, "t": {}}
        for commits, state in [(0, ({}, {})), (2 ** 70 - 1, (things, {})), (128, ({}, snapshots)),
                               (1, (things, snapshots))]:
            data = write_image(commits, state_of(*state))
            self.reads("read_image", data, (commits, *state), 40, 96)
            self.all_cut("read_image", data, 40, 96)

    def test_a_state_of_these_sizes(self):
        (commits, state), _ = self.read("read_image", [3, 0, 0], 12, 4)
        self.assertEqual(commits, 3)
        self.assertIsInstance(state, State)
        self.assertEqual((state.stripes, state.block), (12, 4))
        self.assertEqual(state.after(("file", ("a",))).things, {("a",): (0, ())})

    def test_files_are_tuples(self):
        (_, state), _ = self.read("read_image", [3, 1, 1, 1, 97, 1, 9, 2, 4, 5, 0], 12, 4)
        self.assertIsInstance(state.things[("a",)], tuple)
        self.assertIsInstance(state.things[("a",)][1], tuple)

    def test_first_bytes_of_things(self):
        for first in ([2], [3], [127], [128, 0], [129, 0], [255]):
            self.damaged("read_image", [0, 1, 1, 1, 97] + first + [0, 0, 0, 0], 40, 96)
            self.damaged("read_image", [0, 0, 1, 1, 115, 1, 1, 1, 97] + first + [0, 0, 0], 40, 96)

    def test_neither_order_nor_repetitions_are_checked(self):
        a, b = [1, 1, 97], [1, 1, 98]
        self.reads("read_image", [0, 2, *b, 0, *a, 0, 0], (0, {("a",): None, ("b",): None}, {}), 40, 96)
        self.reads("read_image", [0, 3, *a, 0, *b, 0, *a, 1, 5, 1, 2, 0],
                   (0, {("a",): (5, (2,)), ("b",): None}, {}), 40, 96)
        self.reads("read_image", [0, 0, 3, 1, 116, 0, 1, 115, 1, *a, 0, 1, 116, 1, *b, 0],
                   (0, {}, {"s": {("a",): None}, "t": {("b",): None}}), 40, 96)

    def test_neither_folders_nor_lengths_are_checked(self):
        data = [0, 1, 2, 1, 97, 1, 98, 1, 255, 127, 1, 200, 1, 0]
        self.reads("read_image", data, (0, {("a", "b"): (2 ** 14 - 1, (200,))}, {}), 40, 96)
        self.reads("read_image", [0, 1, 0, 0, 1, 0, 1, 0, 0], (0, {(): None}, {"": {(): None}}), 40, 96)

    def test_lists_with_too_many_items(self):
        self.damaged("read_image", [0, 1, 0], 40, 96)
        self.damaged("read_image", [0, 0, 1], 40, 96)
        self.damaged("read_image", [0, 1, 0, 1, 5, 2, 7], 40, 96)
        self.damaged("read_image", [0, 1, 0, 1, 5, 2, 7, 0], 40, 96)


class TestNothingIsShared(ReaderCase):
    def test_what_was_passed_may_change_later(self):
        data = write_group([RECORDS[2][0]])
        reader = Reader(data)
        data[1] = 9
        data.clear()
        self.assertEqual(reader.read_group(), [RECORDS[2][0]])
        reader.end()

    def test_what_was_told_may_change_later(self):
        data = write_image(5, state_of({("a",): (1, (0,))}, {"s": {("b",): None}}))
        reader = Reader(data + data)
        first = reader.read_image(40, 96)[1]
        first.things.clear()
        first.snapshots["s"].clear()
        second = reader.read_image(40, 96)[1]
        self.assertEqual((second.things, second.snapshots), ({("a",): (1, (0,))}, {"s": {("b",): None}}))

    def test_readers_do_not_share_their_place(self):
        data = [1, 2, 3]
        first, second = Reader(data), Reader(data)
        self.assertEqual((first.read_number(), first.read_number()), (1, 2))
        self.assertEqual((first.at, second.at, second.read_number()), (2, 0, 1))
