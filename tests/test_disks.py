"""Points 5, 9 and 13: sizes of disks, what is written and read, and what is counted."""

import unittest

from rotward.disks import Disks
from rotward.errors import InvalidArgument
from tests.rules import sector

A, B, C = sector(1), sector(2), sector(3)


class TestSizes(unittest.TestCase):
    def test_all_sizes_at_the_edges(self):
        for disks in (4, 5, 6, 7, 8):
            for sectors in (48, 49, 199, 200):
                for carrying in range(1, disks):
                    sizes = (disks, sectors, carrying, disks - carrying)
                    self.assertEqual(Disks(*sizes).sizes(), sizes)
                    self.assertEqual(Disks(disks, sectors, carrying, 1).sizes()[3], 1)

    def test_sizes_over_the_edges(self):
        for sizes in [(3, 48, 1, 1), (9, 48, 1, 1), (4, 47, 1, 1), (4, 201, 1, 1), (4, 48, 0, 1),
                      (4, 48, 1, 0), (4, 48, -1, 1), (4, 48, 1, -1), (-4, 48, 1, 1), (0, 48, 1, 1)]:
            with self.assertRaises(InvalidArgument):
                Disks(*sizes)

    def test_carrying_and_depth_of_as_many_as_there_are_disks_and_one_more(self):
        for disks in range(4, 9):
            for carrying in range(1, disks):
                Disks(disks, 64, carrying, disks - carrying)
                with self.assertRaises(InvalidArgument):
                    Disks(disks, 64, carrying, disks - carrying + 1)
            with self.assertRaises(InvalidArgument):
                Disks(disks, 64, disks, 1)
            with self.assertRaises(InvalidArgument):
                Disks(disks, 64, 1, disks)

    def test_what_is_no_integer(self):
        for place in range(4):
            for wrong in (True, False, None, "4", 4.0, 48.0, 1.0, (4,), [1]):
                sizes = [4, 48, 1, 1]
                sizes[place] = wrong
                with self.assertRaises(InvalidArgument):
                    Disks(*sizes)

    def test_a_boolean_would_have_been_small_enough(self):
        for sizes in [(4, 48, True, 1), (4, 48, 1, True), (4, 48, True, True)]:
            with self.assertRaises(InvalidArgument):
                Disks(*sizes)

    def test_the_names_of_the_arguments(self):
        disks = Disks(depth=2, carrying=3, sectors=50, disks=7)
        self.assertEqual(disks.sizes(), (7, 50, 3, 2))


class TestNew(unittest.TestCase):
    def test_all_are_there_and_power_is_on(self):
        disks = Disks(5, 48, 2, 1)
        self.assertEqual([disks.is_there(disk) for disk in range(5)], [True] * 5)
        self.assertIs(disks.is_on(), True)
        self.assertEqual(disks.losses(), 0)
        self.assertEqual(disks.counts(), (0, 0, 0))
        self.assertEqual([disks.pending(disk) for disk in range(5)], [0] * 5)

    def test_the_attributes(self):
        disks = Disks(5, 48, 2, 1)
        self.assertIs(disks.in_use, False)
        self.assertIs(disks.formatted, False)
        self.assertEqual(disks.scrub_place, 0)
        disks.in_use = disks.formatted = True
        disks.scrub_place = 7
        disks.write(0, 0, A)
        disks.sync()
        self.assertEqual((disks.in_use, disks.formatted, disks.scrub_place), (True, True, 7))

    def test_no_sector_can_be_read(self):
        disks = Disks(4, 200, 2, 1)
        for disk in range(4):
            for at in range(200):
                self.assertIsNone(disks.cell(disk, at))
                self.assertIsNone(disks.ask(disk, at))

    def test_disks_share_nothing(self):
        one, other = Disks(4, 48, 1, 1), Disks(4, 48, 1, 1)
        one.write(1, 2, A)
        one.rot(0, 0, B)
        self.assertIsNone(other.cell(1, 2))
        self.assertIsNone(other.cell(0, 0))
        self.assertIsNone(one.cell(0, 2))
        self.assertIsNone(one.cell(1, 0))


class TestCells(unittest.TestCase):
    def setUp(self):
        self.disks = Disks(4, 48, 2, 1)

    def tell(self, disk, at):
        told = self.disks.cell(disk, at)
        self.assertEqual(self.disks.ask(disk, at), told)
        return told

    def test_a_waiting_write_is_read_at_its_place_only(self):
        self.disks.write(3, 47, A)
        self.assertEqual(self.tell(3, 47), A)
        self.assertIsNone(self.tell(3, 46))
        self.assertIsNone(self.tell(2, 47))

    def test_the_last_waiting_write_is_read(self):
        for data in (A, B, C):
            self.disks.write(1, 5, data)
            self.disks.write(1, 6, A)
            self.assertEqual(self.tell(1, 5), data)
        self.assertEqual(self.tell(1, 6), A)

    def test_a_sync_lays_all_in_order(self):
        for disk, at, data in [(0, 0, A), (1, 0, B), (0, 0, C), (3, 9, A), (3, 8, B)]:
            self.disks.write(disk, at, data)
        self.disks.sync()
        self.assertEqual([self.disks.pending(disk) for disk in range(4)], [0] * 4)
        self.assertEqual([self.tell(disk, 0) for disk in range(4)], [C, B, None, None])
        self.assertEqual([self.tell(3, at) for at in (8, 9, 10)], [B, A, None])
        self.disks.power([])
        self.assertEqual([self.tell(disk, 0) for disk in range(4)], [C, B, None, None])

    def test_a_write_over_what_lies_on_the_medium(self):
        self.disks.write(2, 4, A)
        self.disks.sync()
        self.disks.write(2, 4, B)
        self.assertEqual(self.tell(2, 4), B)
        self.disks.sync()
        self.assertEqual(self.tell(2, 4), B)
        self.disks.sync()
        self.assertEqual(self.tell(2, 4), B)

    def test_waiting_writes_are_counted_by_disk(self):
        for disk in (1, 1, 3, 1):
            self.disks.write(disk, 7, A)
        self.assertEqual([self.disks.pending(disk) for disk in range(4)], [0, 3, 0, 1])
        self.disks.sync()
        self.disks.write(1, 7, A)
        self.assertEqual([self.disks.pending(disk) for disk in range(4)], [0, 1, 0, 0])

    def test_cells_are_new_lists(self):
        self.disks.write(0, 1, A)
        self.disks.rot(0, 2, B)
        for synced in (False, True):
            for at, data in ((1, A), (2, B)):
                for told in (self.disks.cell(0, at), self.disks.ask(0, at)):
                    self.assertIsInstance(told, list)
                    told[0] ^= 1
                    told.append(1)
                    self.assertEqual(self.tell(0, at), data)
            self.disks.sync()

    def test_what_was_written_may_change_later(self):
        data, rotten = list(A), list(B)
        self.disks.write(0, 1, data)
        self.disks.rot(0, 2, rotten)
        data[0] ^= 1
        rotten[31] ^= 1
        self.assertEqual((self.tell(0, 1), self.tell(0, 2)), (A, B))
        self.disks.sync()
        data[1] ^= 1
        rotten.append(0)
        self.assertEqual((self.tell(0, 1), self.tell(0, 2)), (A, B))

    def test_arguments_stay_as_they_are(self):
        data = list(A)
        self.disks.write(0, 1, data)
        self.disks.write(0, 1, B)
        self.disks.rot(0, 1, data)
        self.disks.sync()
        self.disks.bad(0, 1)
        self.assertEqual(data, A)

    def test_methods_without_a_result(self):
        told = [self.disks.write(0, 0, A), self.disks.sync(), self.disks.rot(0, 0, A),
                self.disks.bad(0, 0), self.disks.away(1), self.disks.blank(1),
                self.disks.fail_after(3), self.disks.power([])]
        self.assertEqual(told, [None] * 8)


class TestCounts(unittest.TestCase):
    def setUp(self):
        self.disks = Disks(4, 48, 2, 1)

    def test_each_is_counted_in_its_place(self):
        self.disks.write(0, 0, A)
        self.assertEqual(self.disks.counts(), (0, 1, 0))
        self.disks.ask(0, 0)
        self.disks.ask(1, 5)
        self.assertEqual(self.disks.counts(), (2, 1, 0))
        self.disks.sync()
        self.disks.sync()
        self.disks.sync()
        self.assertEqual(self.disks.counts(), (2, 1, 3))

    def test_cells_and_faults_count_nothing(self):
        self.disks.cell(0, 0)
        self.disks.rot(0, 0, A)
        self.disks.bad(0, 1)
        self.disks.blank(1)
        self.disks.away(1)
        self.disks.power([])
        self.assertEqual(self.disks.counts(), (0, 0, 0))

    def test_sectors_that_cannot_be_read_are_counted(self):
        self.disks.bad(0, 0)
        self.disks.ask(0, 0)
        self.disks.blank(3)
        self.disks.ask(3, 0)
        self.assertEqual(self.disks.counts(), (2, 0, 0))

    def test_nothing_of_a_disk_that_is_away_is_counted(self):
        self.disks.away(2)
        self.disks.ask(2, 0)
        self.disks.write(2, 0, A)
        self.assertEqual(self.disks.counts(), (0, 0, 0))
        self.disks.blank(2)
        self.disks.ask(2, 0)
        self.disks.write(2, 0, A)
        self.assertEqual(self.disks.counts(), (1, 1, 0))

    def test_syncs_are_counted_if_all_disks_are_away(self):
        for disk in range(4):
            self.disks.away(disk)
        self.disks.sync()
        self.assertEqual(self.disks.counts(), (0, 0, 1))

    def test_operations_at_which_power_fails_are_not_counted(self):
        self.disks.fail_after(0)
        with self.assertRaises(ValueError):
            self.disks.sync()
        self.disks.power([])
        self.disks.fail_after(1)
        self.disks.write(0, 0, A)
        with self.assertRaises(ValueError):
            self.disks.write(0, 0, B)
        self.assertEqual(self.disks.counts(), (0, 1, 0))
        with self.assertRaises(ValueError):
            self.disks.write(0, 0, B)
        with self.assertRaises(ValueError):
            self.disks.sync()
        self.assertEqual(self.disks.counts(), (0, 1, 0))
