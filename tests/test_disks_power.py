"""Points 10 and 3: failures of power, what arrives, and what works while power is off."""

import unittest

from rotward.disks import Disks
from rotward.errors import PowerOff
from tests.rules import sector

A, B, C, D = sector(1), sector(2), sector(3), sector(4)


def told(disks):
    """All that disks tell without counting."""
    cells = [[disks.cell(disk, at) for at in range(48)] for disk in range(4)]
    pending = [disks.pending(disk) for disk in range(4)]
    there = [disks.is_there(disk) for disk in range(4)]
    return (cells, pending, there, disks.counts(), disks.is_on(), disks.losses())


class PowerCase(unittest.TestCase):
    def setUp(self):
        self.disks = Disks(4, 48, 2, 1)

    def all_refused(self):
        """Every operation raises PowerOff, and changes nothing."""
        before = told(self.disks)
        for call, arguments in [(self.disks.write, (0, 0, D)), (self.disks.sync, ()),
                                (self.disks.fail_after, (5,)), (self.disks.write, (3, 9, D))]:
            with self.assertRaises(PowerOff):
                call(*arguments)
            self.assertEqual(told(self.disks), before)


class TestFailAfter(PowerCase):
    def test_a_number_of_0_at_a_write_and_at_a_sync(self):
        for call, arguments in [(self.disks.write, (0, 0, A)), (self.disks.sync, ())]:
            self.disks.fail_after(0)
            self.assertIs(self.disks.is_on(), True)
            with self.assertRaises(PowerOff):
                call(*arguments)
            self.assertIs(self.disks.is_on(), False)
            self.all_refused()
            self.disks.power([])
        self.assertIsNone(self.disks.cell(0, 0))
        self.assertEqual(self.disks.pending(0), 0)
        self.assertEqual(self.disks.losses(), 2)

    def test_so_many_are_made_and_the_next_one_is_not(self):
        for many in range(6):
            self.disks.fail_after(many)
            for step in range(many):
                self.disks.write(step % 4, many, A)
            with self.assertRaises(PowerOff):
                self.disks.write(3, 40, B)
            self.assertIsNone(self.disks.cell(3, 40))
            self.assertEqual(sum(self.disks.pending(disk) for disk in range(4)), many)
            self.assertEqual(self.disks.losses(), many + 1)
            self.disks.power([])

    def test_a_sync_that_is_not_made_lays_nothing(self):
        self.disks.write(0, 0, A)
        self.disks.fail_after(0)
        with self.assertRaises(PowerOff):
            self.disks.sync()
        self.assertEqual(self.disks.pending(0), 1)
        self.disks.power([])
        self.assertIsNone(self.disks.cell(0, 0))

    def test_syncs_and_writes_to_disks_that_are_away_count_among_them(self):
        self.disks.away(1)
        self.disks.fail_after(3)
        self.disks.write(1, 0, A)
        self.disks.sync()
        self.disks.write(1, 0, A)
        self.assertEqual(self.disks.counts(), (0, 0, 1))
        with self.assertRaises(PowerOff):
            self.disks.write(1, 0, A)

    def test_reads_and_faults_do_not_count_among_them(self):
        self.disks.fail_after(1)
        for step in range(4):
            self.disks.ask(0, step)
            self.disks.cell(0, step)
            self.disks.rot(0, step, A)
            self.disks.bad(0, step)
            self.disks.away(2)
            self.disks.blank(2)
        self.disks.write(0, 0, A)
        with self.assertRaises(PowerOff):
            self.disks.write(0, 0, A)

    def test_a_later_number_replaces_an_earlier_one(self):
        self.disks.fail_after(0)
        self.disks.fail_after(2)
        self.disks.write(0, 0, A)
        self.disks.fail_after(1)
        self.disks.sync()
        with self.assertRaises(PowerOff):
            self.disks.sync()

    def test_no_failure_is_set_when_power_came_back(self):
        self.disks.fail_after(1)
        self.disks.power([])
        for step in range(5):
            self.disks.write(0, step, A)
        self.disks.fail_after(0)
        with self.assertRaises(PowerOff):
            self.disks.sync()
        self.disks.power([])
        for step in range(5):
            self.disks.sync()
        self.assertEqual(self.disks.losses(), 2)

    def test_a_number_is_not_set_while_power_is_off(self):
        self.disks.fail_after(0)
        with self.assertRaises(PowerOff):
            self.disks.sync()
        with self.assertRaises(PowerOff):
            self.disks.fail_after(0)
        self.disks.power([])
        self.disks.sync()

    def test_losses_are_counted_once_each(self):
        self.disks.fail_after(0)
        for step in range(3):
            with self.assertRaises(PowerOff):
                self.disks.sync()
            self.assertEqual(self.disks.losses(), 1)
        self.disks.power([])
        self.assertEqual(self.disks.losses(), 1)
        self.disks.power([])
        self.disks.power([])
        self.assertEqual(self.disks.losses(), 3)
        self.assertIs(self.disks.is_on(), True)


class TestInUse(PowerCase):
    def test_false_from_a_failing_on(self):
        self.disks.in_use = True
        self.disks.formatted = True
        self.disks.scrub_place = 5
        self.disks.fail_after(1)
        self.disks.sync()
        self.assertIs(self.disks.in_use, True)
        with self.assertRaises(PowerOff):
            self.disks.sync()
        self.assertIs(self.disks.in_use, False)
        self.disks.power([])
        self.assertIs(self.disks.in_use, False)
        self.assertIs(self.disks.formatted, True)
        self.assertEqual(self.disks.scrub_place, 5)

    def test_false_when_power_fails_as_it_is_told_to(self):
        self.disks.in_use = True
        self.disks.power([])
        self.assertIs(self.disks.in_use, False)
        self.assertIs(self.disks.is_on(), True)


class TestWhatArrives(PowerCase):
    def write_some(self):
        """Three writes to each disk, the first and the last to one sector."""
        for disk in range(4):
            self.disks.write(disk, 0, A)
            self.disks.write(disk, 1, B)
            self.disks.write(disk, 0, C)

    def test_any_choice_arrives_in_order(self):
        results = {(False, False, False): (None, None), (True, False, False): (A, None),
                   (False, True, False): (None, B), (False, False, True): (C, None),
                   (True, True, False): (A, B), (True, False, True): (C, None),
                   (False, True, True): (C, B), (True, True, True): (C, B)}
        for kept, cells in results.items():
            self.disks = Disks(4, 48, 2, 1)
            self.write_some()
            self.disks.power([[], list(kept), [True] * 3, [False] * 3])
            for disk, right in enumerate([(None, None), cells, (C, B), (None, None)]):
                self.assertEqual((self.disks.cell(disk, 0), self.disks.cell(disk, 1)), right)
            self.assertEqual([self.disks.pending(disk) for disk in range(4)], [0] * 4)

    def test_fewer_booleans_and_lists_than_writes_and_disks(self):
        self.write_some()
        self.disks.power([[True], [False, True]])
        told = [(self.disks.cell(disk, 0), self.disks.cell(disk, 1)) for disk in range(4)]
        self.assertEqual(told, [(A, None), (None, B), (None, None), (None, None)])

    def test_more_booleans_and_lists_than_writes_and_disks(self):
        self.write_some()
        self.disks.power([[True, True, False, True], [False] * 3 + [True] * 9, [False], [],
                          [True] * 3, [True] * 3])
        told = [(self.disks.cell(disk, 0), self.disks.cell(disk, 1)) for disk in range(4)]
        self.assertEqual(told, [(A, B), (None, None), (None, None), (None, None)])

    def test_nothing_waits_and_booleans_are_told(self):
        self.disks.rot(0, 0, A)
        self.disks.power([[True, True]] * 6)
        self.assertEqual(self.disks.cell(0, 0), A)
        self.assertIsNone(self.disks.cell(1, 0))

    def test_what_does_not_arrive_leaves_the_medium_as_it_is(self):
        self.disks.write(0, 0, A)
        self.disks.sync()
        self.disks.write(0, 0, B)
        self.disks.power([[False]])
        self.assertEqual(self.disks.cell(0, 0), A)
        self.disks.sync()
        self.assertEqual(self.disks.cell(0, 0), A)

    def test_what_waited_when_power_failed_may_arrive(self):
        self.disks.fail_after(2)
        self.disks.write(0, 0, A)
        self.disks.write(1, 0, B)
        with self.assertRaises(PowerOff):
            self.disks.write(2, 0, C)
        self.disks.power([[False], [True], [True]])
        self.assertEqual([self.disks.cell(disk, 0) for disk in range(3)], [None, B, None])

    def test_the_choice_stays_as_it_is_and_may_change_later(self):
        self.write_some()
        kept = [[True, False], [True] * 5, []]
        self.disks.power(kept)
        self.assertEqual(kept, [[True, False], [True] * 5, []])
        kept[0][1] = True
        self.assertIsNone(self.disks.cell(0, 1))


class TestWhilePowerIsOff(PowerCase):
    def setUp(self):
        super().setUp()
        self.disks.write(0, 0, A)
        self.disks.sync()
        self.disks.write(0, 1, B)
        self.disks.write(0, 0, C)
        self.disks.write(1, 0, B)
        self.disks.away(3)
        self.disks.fail_after(0)
        with self.assertRaises(PowerOff):
            self.disks.sync()

    def test_what_is_there_is_told(self):
        self.assertEqual([self.disks.cell(0, at) for at in range(3)], [C, B, None])
        self.assertEqual([self.disks.pending(disk) for disk in range(4)], [2, 1, 0, 0])
        self.assertEqual([self.disks.is_there(disk) for disk in range(4)], [True] * 3 + [False])
        self.assertEqual(self.disks.sizes(), (4, 48, 2, 1))
        self.all_refused()

    def test_asking_is_counted(self):
        reads = self.disks.counts()[0]
        self.assertEqual([self.disks.ask(0, at) for at in range(3)], [C, B, None])
        self.assertIsNone(self.disks.ask(3, 0))
        self.assertEqual(self.disks.counts()[0], reads + 3)

    def test_faults_of_media_under_what_waits(self):
        self.disks.rot(0, 0, D)
        self.disks.bad(0, 1)
        self.disks.rot(2, 5, D)
        self.assertEqual([self.disks.cell(0, 0), self.disks.cell(0, 1)], [C, B])
        self.assertEqual(self.disks.cell(2, 5), D)
        self.disks.power([])
        self.assertEqual([self.disks.cell(0, 0), self.disks.cell(0, 1)], [D, None])
        self.assertEqual(self.disks.cell(2, 5), D)

    def test_a_bad_sector_is_written_by_what_arrives(self):
        self.disks.bad(0, 0)
        self.disks.rot(0, 1, D)
        self.disks.power([[True, True]])
        self.assertEqual([self.disks.cell(0, 0), self.disks.cell(0, 1)], [C, B])

    def test_disks_taken_away_and_replaced(self):
        self.disks.away(0)
        self.disks.blank(1)
        self.disks.blank(3)
        self.assertEqual([self.disks.is_there(disk) for disk in range(4)], [False, True, True, True])
        self.assertEqual([self.disks.pending(disk) for disk in range(4)], [0] * 4)
        self.disks.power([[True] * 2] * 4)
        for disk in range(4):
            self.assertEqual([self.disks.cell(disk, at) for at in range(3)], [None] * 3)
        self.disks.write(3, 0, D)
        self.assertEqual(self.disks.cell(3, 0), D)
