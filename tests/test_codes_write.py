"""Point 25: what is written, by hand and at random."""

import unittest
from copy import deepcopy

from rotward.codes import write_group, write_image, write_number, write_path, write_record
from rotward.states import State
from tests.code_rules import GROUP, IMAGE, NUMBER, PATH, RECORD, Data, digits, plain_image, plain_path
from tests.code_rules import plain_record, write

NUMBERS = [
    (0, [0]), (1, [1]), (5, [5]), (126, [126]), (127, [127]), (128, [128, 1]), (129, [129, 1]),
    (255, [255, 1]), (256, [128, 2]), (300, [172, 2]), (2 ** 14 - 1, [255, 127]),
    (2 ** 14, [128, 128, 1]), (2 ** 21 + 3, [131, 128, 128, 1]), (2 ** 56, [128] * 8 + [1]),
    (2 ** 63 - 1, [255] * 8 + [127]), (2 ** 63, [128] * 9 + [1]), (2 ** 70 - 1, [255] * 9 + [127]),
]
A, B, AB = (1, 1, 97), (1, 1, 98), (2, 1, 97, 2, 98, 95)
RECORDS = [
    (("folder", ("a",)), [0, *A]),
    (("file", ("a", "b_")), [1, *AB]),
    (("put", ("a",), 300, ((0, 7), (130, 1))), [2, *A, 172, 2, 2, 0, 7, 130, 1, 1]),
    (("put", ("a",), 0, ()), [2, *A, 0, 0]),
    (("trim", ("a", "b_"), 128, 2), [3, *AB, 128, 1, 2]),
    (("trim", ("a",), 0, 0), [3, *A, 0, 0]),
    (("move", ("a",), ("a", "b_")), [4, *A, *AB]),
    (("drop", ("a", "b_")), [5, *AB]),
    (("snap", "old"), [6, 3, 111, 108, 100]),
    (("forget", "z_9"), [7, 3, 122, 95, 57]),
    (("back", "a"), [8, 1, 97]),
]


def state_of(things, snapshots):
    state = State(40, 96)
    state.things = things
    state.snapshots = snapshots
    return state


class TestNumbersAndPaths(unittest.TestCase):
    def test_numbers(self):
        for number, data in NUMBERS:
            self.assertEqual(write_number(number), data)
            self.assertEqual(digits(number), data)
        for number in range(1000):
            self.assertEqual(write_number(number), write(NUMBER, number))

    def test_paths(self):
        self.assertEqual(write_path(()), [0])
        self.assertEqual(write_path(("a",)), list(A))
        self.assertEqual(write_path(("a", "b_")), list(AB))
        self.assertEqual(write_path(("abc", "z", "0_9")), [3, 3, 97, 98, 99, 1, 122, 3, 48, 95, 57])
        self.assertEqual(write_path(("x" * 12,) * 6), [6] + ([12] + [120] * 12) * 6)

    def test_paths_that_moves_make_long(self):
        self.assertEqual(write_path(("a",) * 130), [130, 1] + [1, 97] * 130)

    def test_all_characters(self):
        for letter in "abcdefghijklmnopqrstuvwxyz0123456789_":
            self.assertEqual(write_path((letter,)), [1, 1, ord(letter)])

    def test_a_new_list_each_time(self):
        for call, value in [(write_number, 5), (write_path, ("a",)), (write_record, RECORDS[2][0]),
                            (write_group, [RECORDS[2][0]])]:
            first = call(value)
            self.assertIsInstance(first, list)
            before = list(first)
            first.clear()
            self.assertEqual(call(value), before)


class TestRecords(unittest.TestCase):
    def test_records(self):
        for record, data in RECORDS:
            self.assertEqual(write_record(record), data)

    def test_groups(self):
        self.assertEqual(write_group([]), [0])
        for record, data in RECORDS:
            self.assertEqual(write_group([record]), [1] + data)
        rows = [record for record, _ in RECORDS]
        self.assertEqual(write_group(rows), [11] + [byte for _, data in RECORDS for byte in data])
        self.assertEqual(write_group(rows * 12)[:2], [132, 1])

    def test_the_order_of_records_stays(self):
        self.assertEqual(write_group([("back", "b"), ("back", "a")]), [2, 8, 1, 98, 8, 1, 97])

    def test_what_is_passed_stays(self):
        rows = [record for record, _ in RECORDS]
        before = deepcopy(rows)
        write_group(rows)
        self.assertEqual(rows, before)

    def test_random_records(self):
        data = Data(1)
        for _ in range(600):
            record, path, group = data.record(), data.path(), data.group()
            self.assertEqual(write_record(record), write(RECORD, plain_record(record)))
            self.assertEqual(write_path(path), write(PATH, plain_path(path)))
            self.assertEqual(write_group(group), write(GROUP, [plain_record(row) for row in group]))


class TestImages(unittest.TestCase):
    def test_nothing(self):
        self.assertEqual(write_image(0, State(40, 96)), [0, 0, 0])
        self.assertEqual(write_image(128, State(40, 96)), [128, 1, 0, 0])

    def test_folders_and_files(self):
        state = state_of({("a",): None, ("b",): (200, (3, 130)), ("a", "b_"): (0, ())}, {})
        self.assertEqual(write_image(7, state), [7, 3, *A, 0, *AB, 1, 0, 0, *B, 1, 200, 1, 2, 3, 130, 1, 0])

    def test_snapshots(self):
        state = state_of({}, {"t": {}, "s": {("b",): None, ("a",): (1, (0,))}})
        self.assertEqual(write_image(2, state), [2, 0, 2, 1, 115, 2, *A, 1, 1, 1, 0, *B, 0, 1, 116, 0])

    def test_the_order_of_paths_and_names(self):
        paths = [("b",), ("a_b",), ("a1",), ("ab",), ("a",), ("a", "z"), ("a1", "_")]
        order = [("a",), ("a", "z"), ("a1",), ("a1", "_"), ("a_b",), ("ab",), ("b",)]
        names = ["b", "a_", "a", "9", "_"]
        state = state_of({path: None for path in paths}, {name: {} for name in names})
        data = [byte for path in order for byte in write_path(path) + [0]]
        rows = [byte for name in ["9", "_", "a", "a_", "b"] for byte in write_path((name,))[1:] + [0]]
        self.assertEqual(write_image(0, state), [0, 7] + data + [5] + rows)

    def test_what_is_passed_stays(self):
        state = state_of({("b",): (200, (3, 130)), ("a",): None}, {"t": {}, "s": {("b",): None}})
        before = deepcopy((state.things, state.snapshots))
        write_image(3, state).clear()
        self.assertEqual((state.things, state.snapshots), before)
        self.assertEqual(list(state.things), [("b",), ("a",)])

    def test_random_images(self):
        data = Data(2)
        for _ in range(400):
            commits, things, snapshots = data.number(), data.things(), data.snapshots()
            told = write_image(commits, state_of(things, snapshots))
            self.assertEqual(told, write(IMAGE, plain_image(commits, things, snapshots)))
