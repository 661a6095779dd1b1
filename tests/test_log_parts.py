"""Points 26 and 27: the parts of a disk, log blocks and tails."""

import unittest
from random import Random

from rotward.log import area_size, area_start, log_block, read_block, read_tail, region_start
from rotward.log import stripe_count, tail
from tests.rules import sector

HEAD = [70, 73, 76, 69]


def some_bytes(many):
    """So many bytes, none of them 0."""
    return Random(many).choices(range(1, 256), k=many)


def block_of(data):
    """Point 27: a log block, byte by byte."""
    whole = list(len(data).to_bytes(4, "big")) + data
    while len(whole) % 32:
        whole.append(0)
    return [whole[at:at + 32] for at in range(0, len(whole), 32)]


class TestParts(unittest.TestCase):
    def test_smallest_and_largest_disks(self):
        for sectors, told in [(48, (11, 2, 13, 24, 24)), (49, (11, 2, 13, 24, 25)), (50, (12, 2, 14, 26, 24)),
                              (64, (15, 2, 17, 32, 32)), (65, (15, 2, 17, 32, 33)),
                              (66, (16, 2, 18, 34, 32)), (200, (49, 2, 51, 100, 100))]:
            self.assertEqual((area_size(sectors), area_start(sectors, 0), area_start(sectors, 1),
                              region_start(sectors), stripe_count(sectors)), told)

    def test_all_sectors_belong_to_one_part(self):
        for sectors in range(48, 201):
            size = area_size(sectors)
            self.assertIn(sectors - 2 - 4 * size, range(4))
            parts = [0, 1] + [area_start(sectors, area) + at for area in (0, 1) for at in range(size)]
            parts += [region_start(sectors) + stripe for stripe in range(stripe_count(sectors))]
            self.assertEqual(parts, list(range(sectors)))


class TestLogBlocks(unittest.TestCase):
    def test_by_hand(self):
        self.assertEqual(log_block([]), [[0] * 32])
        self.assertEqual(log_block([9, 0]), [[0, 0, 0, 2, 9] + [0] * 27])
        self.assertEqual(log_block([7] * 28), [[0, 0, 0, 28] + [7] * 28])
        self.assertEqual(log_block([7] * 29), [[0, 0, 0, 29] + [7] * 28, [7] + [0] * 31])
        self.assertEqual(log_block([7] * 300)[0], [0, 0, 1, 44] + [7] * 28)

    def test_all_lengths(self):
        for many in list(range(200)) + [1568 - 4, 1568, 70000]:
            data = some_bytes(many)
            self.assertEqual(log_block(data), block_of(data))

    def test_what_is_passed_stays_and_nothing_is_shared(self):
        data = [7] * 40
        told = log_block(data)
        told[0][4] = 8
        told[1].clear()
        self.assertEqual(data, [7] * 40)
        self.assertEqual(log_block(data), block_of(data))

    def test_what_was_written_is_read(self):
        for many in list(range(100)) + [1568, 70000]:
            data = some_bytes(many)
            sectors = block_of(data)
            for before in (0, 1, 3):
                for behind in (0, 1, 2):
                    rows = [sector(before)] * before + sectors + [sector(9)] * behind
                    self.assertEqual(read_block(rows, before), (data, before + len(sectors)))

    def test_a_block_that_ends_with_the_last_sector_and_one_later(self):
        for sectors in (1, 2, 3, 7):
            most = 32 * sectors - 4
            rows = [list(most.to_bytes(4, "big")) + [5] * 28] + [[5] * 32] * (sectors - 1)
            self.assertEqual(read_block(rows, 0), ([5] * most, sectors))
            rows[0][:4] = list((most + 1).to_bytes(4, "big"))
            self.assertIsNone(read_block(rows, 0))
            self.assertEqual(read_block(rows + [[6] * 32], 0), ([5] * most + [6], sectors + 1))
            self.assertEqual(read_block([[1] * 32] + rows + [[6] * 32], 1)[1], sectors + 2)
            self.assertIsNone(read_block([[1] * 32] + rows, 1))

    def test_no_block_behind_the_list(self):
        self.assertIsNone(read_block([], 0))
        self.assertIsNone(read_block([[0] * 32], 1))
        self.assertEqual(read_block([[0] * 32] * 2, 1), ([], 2))

    def test_great_numbers_of_bytes(self):
        for number in ([255, 255, 255, 255], [1, 0, 0, 0], [0, 1, 0, 0], [0, 0, 2, 0]):
            self.assertIsNone(read_block([number + [0] * 28] * 10, 0))

    def test_what_stands_behind_the_bytes_is_not_looked_at(self):
        self.assertEqual(read_block([[0, 0, 0, 2, 9, 8] + [77] * 26], 0), ([9, 8], 1))
        self.assertEqual(read_block([[0, 0, 0, 0] + [77] * 28], 0), ([], 1))

    def test_what_is_read_from_stays(self):
        rows = block_of([7] * 40)
        told, _ = read_block(rows, 0)
        told[0] = 8
        told.clear()
        self.assertEqual(rows, block_of([7] * 40))


class TestTails(unittest.TestCase):
    def test_by_hand(self):
        self.assertEqual(tail(0, 0, 1, 1), HEAD + [0] * 6 + [0, 0, 0, 0, 1, 0, 0, 0, 1] + [0] * 13)
        self.assertEqual(tail(300, 1, 2, 515),
                         HEAD + [0, 0, 0, 0, 1, 44, 1, 0, 0, 0, 2, 0, 0, 2, 3] + [0] * 13)
        self.assertEqual(tail(0x010203040506, 1, 0x0708090A, 0x0B0C0D0E),
                         HEAD + [1, 2, 3, 4, 5, 6, 1, 7, 8, 9, 10, 11, 12, 13, 14] + [0] * 13)

    def test_what_was_written_is_read(self):
        for numbers in [(0, 0, 0, 0), (0, 0, 1, 1), (255, 1, 256, 65535), (2 ** 48 - 1, 0, 2 ** 32 - 1, 0),
                        (2 ** 47, 1, 0, 2 ** 32 - 1), (65536, 1, 2 ** 31, 2 ** 24), (12345678901, 0, 48, 49)]:
            self.assertEqual(read_tail(tail(*numbers)), numbers)
            self.assertIsInstance(read_tail(tail(*numbers)), tuple)

    def test_no_sector(self):
        self.assertIsNone(read_tail(None))

    def test_a_wrong_sign(self):
        for at in range(4):
            for wrong in (0, 255, HEAD[at] ^ 1):
                told = tail(5, 1, 2, 3)
                told[at] = wrong
                self.assertIsNone(read_tail(told))
        self.assertIsNone(read_tail([69, 76, 73, 70] + tail(5, 1, 2, 3)[4:]))
        self.assertIsNone(read_tail([0] * 32))

    def test_an_area_that_is_neither_0_nor_1(self):
        for area in (2, 3, 128, 255):
            told = tail(5, 1, 2, 3)
            told[10] = area
            self.assertIsNone(read_tail(told))

    def test_other_bytes_than_zeros_behind_the_numbers(self):
        for at in range(19, 32):
            for wrong in (1, 255):
                told = tail(5, 1, 2, 3)
                told[at] = wrong
                self.assertIsNone(read_tail(told))

    def test_each_byte_of_the_numbers(self):
        for at in list(range(4, 10)) + list(range(11, 19)):
            told = tail(0, 0, 0, 0)
            told[at] = 1
            right = [0, 0, 0, 0]
            if at < 10:
                right[0] = 256 ** (9 - at)
            else:
                right[2 + (at > 14)] = 256 ** ((14 if at < 15 else 18) - at)
            self.assertEqual(read_tail(told), tuple(right))

    def test_what_is_read_stays_and_what_is_told_may_change(self):
        told = tail(5, 1, 2, 3)
        read_tail(told)
        self.assertEqual(told, HEAD + [0, 0, 0, 0, 0, 5, 1, 0, 0, 0, 2, 0, 0, 0, 3] + [0] * 13)
        told.clear()
        self.assertEqual(read_tail(tail(5, 1, 2, 3)), (5, 1, 2, 3))
