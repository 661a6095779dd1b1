"""Point 11: sectors rot and become bad, disks go away and are replaced."""

import unittest

from rotward.disks import Disks
from rotward.errors import PowerOff
from tests.disk_rules import RuleDisks, happenings, told_of
from tests.rules import sector

A, B, C = sector(1), sector(2), sector(3)


class TestFaults(unittest.TestCase):
    def setUp(self):
        self.disks = Disks(4, 48, 2, 1)
        self.disks.write(1, 5, A)
        self.disks.sync()

    def test_a_sector_rots(self):
        self.disks.rot(1, 5, B)
        self.assertEqual(self.disks.cell(1, 5), B)
        self.disks.rot(1, 5, C)
        self.assertEqual(self.disks.ask(1, 5), C)
        self.assertIsNone(self.disks.cell(1, 4))
        self.assertIsNone(self.disks.cell(2, 5))

    def test_a_sector_that_was_never_written_rots(self):
        self.disks.rot(2, 6, B)
        self.assertEqual(self.disks.cell(2, 6), B)
        self.disks.sync()
        self.assertEqual(self.disks.cell(2, 6), B)

    def test_only_the_medium_rots(self):
        self.disks.write(1, 5, B)
        self.disks.rot(1, 5, C)
        self.assertEqual(self.disks.cell(1, 5), B)
        self.disks.sync()
        self.assertEqual(self.disks.cell(1, 5), B)
        self.disks.write(1, 5, A)
        self.disks.rot(1, 5, C)
        self.disks.power([])
        self.assertEqual(self.disks.cell(1, 5), C)

    def test_a_bad_sector(self):
        self.disks.bad(1, 5)
        self.assertIsNone(self.disks.cell(1, 5))
        self.disks.sync()
        self.disks.power([])
        self.assertIsNone(self.disks.cell(1, 5))

    def test_a_bad_sector_until_it_is_written(self):
        self.disks.bad(1, 5)
        self.disks.write(1, 5, B)
        self.assertEqual(self.disks.cell(1, 5), B)
        self.disks.power([])
        self.assertIsNone(self.disks.cell(1, 5))
        self.disks.write(1, 5, B)
        self.disks.sync()
        self.disks.power([])
        self.assertEqual(self.disks.cell(1, 5), B)

    def test_a_bad_sector_until_it_rots(self):
        self.disks.bad(1, 5)
        self.disks.rot(1, 5, B)
        self.assertEqual(self.disks.cell(1, 5), B)

    def test_only_the_medium_becomes_bad(self):
        self.disks.write(1, 5, B)
        self.disks.bad(1, 5)
        self.assertEqual(self.disks.cell(1, 5), B)
        self.disks.power([[], [True]])
        self.assertEqual(self.disks.cell(1, 5), B)
        self.disks.write(1, 5, C)
        self.disks.bad(1, 5)
        self.disks.power([[], [False]])
        self.assertIsNone(self.disks.cell(1, 5))

    def test_a_disk_is_taken_away(self):
        self.disks.write(1, 6, B)
        self.disks.away(1)
        self.assertEqual([self.disks.is_there(disk) for disk in range(4)], [True, False, True, True])
        self.assertEqual(self.disks.pending(1), 0)
        self.assertIsNone(self.disks.cell(1, 5))
        self.assertIsNone(self.disks.ask(1, 6))

    def test_what_is_written_to_a_disk_that_is_away_goes_nowhere(self):
        self.disks.away(1)
        self.disks.write(1, 5, B)
        self.assertEqual(self.disks.pending(1), 0)
        self.assertIsNone(self.disks.cell(1, 5))
        self.disks.sync()
        self.assertIsNone(self.disks.cell(1, 5))
        self.disks.write(1, 5, B)
        self.disks.blank(1)
        self.disks.sync()
        self.disks.power([[True]] * 4)
        self.assertIsNone(self.disks.cell(1, 5))

    def test_a_disk_that_is_away_does_not_rot(self):
        self.disks.away(1)
        self.disks.rot(1, 5, B)
        self.disks.bad(1, 6)
        self.assertIsNone(self.disks.cell(1, 5))
        self.disks.blank(1)
        self.assertIsNone(self.disks.cell(1, 5))
        self.disks.write(1, 6, A)
        self.disks.sync()
        self.assertEqual(self.disks.cell(1, 6), A)

    def test_a_disk_is_replaced(self):
        self.disks.write(1, 6, B)
        self.disks.write(2, 6, B)
        self.disks.blank(1)
        self.assertIs(self.disks.is_there(1), True)
        self.assertEqual([self.disks.pending(disk) for disk in range(4)], [0, 0, 1, 0])
        self.disks.sync()
        self.assertEqual([self.disks.cell(1, at) for at in range(48)], [None] * 48)
        self.assertEqual(self.disks.cell(2, 6), B)
        self.disks.write(1, 5, C)
        self.disks.rot(1, 7, C)
        self.disks.sync()
        self.assertEqual([self.disks.cell(1, at) for at in (5, 6, 7)], [C, None, C])

    def test_a_disk_that_was_away_is_replaced(self):
        self.disks.away(1)
        self.disks.away(1)
        self.disks.blank(1)
        self.assertIs(self.disks.is_there(1), True)
        self.assertIsNone(self.disks.cell(1, 5))
        self.disks.write(1, 5, B)
        self.assertEqual(self.disks.pending(1), 1)
        self.assertEqual(self.disks.cell(1, 5), B)

    def test_other_disks_stay_as_they_are(self):
        for disk in (0, 2, 3):
            self.disks.rot(disk, 5, A)
            self.disks.write(disk, 6, B)
        self.disks.away(1)
        self.disks.blank(1)
        self.disks.bad(1, 5)
        for disk in (0, 2, 3):
            self.assertEqual((self.disks.cell(disk, 5), self.disks.cell(disk, 6)), (A, B))
            self.assertEqual(self.disks.pending(disk), 1)


class TestAnyHappenings(unittest.TestCase):
    def happen(self, disks, kind, arguments):
        """What the method of the program tells, or the word off."""
        try:
            return getattr(disks, kind)(*arguments)
        except PowerOff:
            return "off"

    def test_all_is_as_the_rule_tells(self):
        off = 0
        for seed in range(40):
            disks = Disks(4, 48, 2, 1)
            rule = RuleDisks(4, 48)
            for kind, arguments in happenings(seed, 4, 60):
                right = getattr(rule, kind)(*arguments)
                told = self.happen(disks, kind, arguments)
                self.assertEqual(told, right, (seed, kind, arguments))
                self.assertEqual(told_of(disks), rule.told(), (seed, kind, arguments))
                off += right == "off"
        self.assertGreater(off, 50)
