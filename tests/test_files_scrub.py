"""Points 32 and 33, and promise 3 of point 36: scrubs."""

from rotward.files import Files
from tests.files_case import ALL, D, F, G, FilesCase, numbered
from tests.watched import SYNC, Watched, asks, outcome, picture, writes


class ScrubCase(FilesCase):
    def setUp(self):
        """The places: tails 0 and 1, the sectors 2 and 3, and the stripes 0 and 1, which are 24 and 25."""
        super().setUp()
        self.files.change([("file", F), ("put", F, 0, numbered(100))])
        self.places = [0, 1, 2, 3, 24, 25]
        self.right = {at: [self.disks.cell(disk, at) for disk in ALL] for at in self.places}
        self.disks.take()

    def steps(self, *places):
        """What steps ask if nothing is wrong."""
        return [row for at in places for row in asks(at, ALL)]

    def all_right(self):
        for at in self.places:
            self.assertEqual([self.disks.cell(disk, at) for disk in ALL], self.right[at])


class TestPlaces(ScrubCase):
    def test_in_their_order(self):
        for number, at in enumerate(self.places * 2):
            self.assertEqual(self.disks.scrub_place, number % 6 or 6 * (number > 0))
            self.assertEqual(self.files.scrub(1), (0, []))
            self.assertEqual(self.disks.take(), self.steps(at) + SYNC)
        self.assertEqual(self.disks.scrub_place, 6)

    def test_all_numbers_of_steps(self):
        for steps in range(1, 9):
            self.disks.scrub_place = 0
            self.assertEqual(self.files.scrub(steps), (0, []))
            self.assertEqual(self.disks.take(), self.steps(*(self.places * 2)[:steps]) + SYNC)
            self.assertEqual(self.disks.scrub_place, steps if steps <= 6 else steps - 6)

    def test_more_steps_than_there_are_places(self):
        disks = Watched(4, 48, 2, 1)
        files = Files(disks, True)
        disks.take()
        disks.rot(1, 2, [9] * 32)
        self.assertEqual(files.scrub(8), (1, []))
        right = [asks(at, range(4)) for at in (0, 1, 2, 0, 1, 2, 0, 1)]
        right[2] += writes(2, disks.cell(0, 2), [1])
        self.assertEqual(disks.take(), [row for part in right for row in part] + SYNC)
        self.assertEqual(disks.scrub_place, 2)

    def test_any_number_that_the_disks_keep(self):
        for place, at in [(6, 0), (7, 1), (12, 0), (17, 25), (1000, 24)]:
            self.disks.scrub_place = place
            self.files.scrub(1)
            self.assertEqual(self.disks.take(), self.steps(at) + SYNC)
            self.assertEqual(self.disks.scrub_place, self.places.index(at) + 1)

    def test_the_number_stays_while_files_are_closed(self):
        self.files.scrub(3)
        self.restart()
        self.assertEqual(self.disks.scrub_place, 3)
        self.disks.take()
        self.files.scrub(2)
        self.assertEqual(self.disks.take(), self.steps(3, 24) + SYNC)

    def test_the_places_after_changes(self):
        self.disks.scrub_place = 2
        self.files.change([("drop", F), ("file", G), ("put", G, 0, numbered(200)), ("snap", "s"),
                           ("drop", G)])
        self.disks.take()
        self.files.scrub(8)
        self.assertEqual(self.disks.take(), self.steps(2, 3, 4, 5, 26, 27, 28, 0) + SYNC)
        self.files.change([("back", "s"), ("put", G, 0, (1,))])
        self.disks.scrub_place = 7
        self.disks.take()
        self.files.scrub(5)
        self.assertEqual(self.disks.take(), self.steps(24, 26, 27, 28, 0) + SYNC)

    def test_the_places_in_the_other_area(self):
        for number in range(10):
            self.files.change([("folder", D)] if number % 2 == 0 else [("drop", D)])
        self.assertEqual(self.files.status()[:3], (11, 0, 10))
        self.disks.take()
        self.files.scrub(5)
        self.assertEqual(self.disks.take(), self.steps(0, 1, 13, 24, 25) + SYNC)


class TestWrites(ScrubCase):
    def test_wrong_and_unreadable_sectors_of_the_low_part(self):
        for number in range(4):
            self.spoil(number, [1, 4])
            self.bad(number, [3])
            self.disks.scrub_place = number
            self.assertEqual(self.files.scrub(1), (3, []))
            content = self.right[number][0]
            self.assertEqual(self.disks.take(), self.steps(number) + writes(number, content, [1, 3, 4]) + SYNC)
            self.all_right()

    def test_the_low_part_in_any_case(self):
        for number in range(4):
            self.spoil(number, [0, 1, 2])
            self.bad(number, [3, 4, 5])
        self.assertEqual(self.files.scrub(4), (24, []))
        self.all_right()
        for disk in ALL:
            self.disks.away(disk)
            self.disks.blank(disk)
        self.assertEqual(self.files.scrub(8), (24, [0, 1, 0, 1]))
        self.assertEqual(outcome(self.restart)[0], "done")
        self.assertEqual(self.files.read(F, 0, 1), [None])

    def test_wrong_and_unreadable_sectors_of_stripes(self):
        for spoiled, bad in [([2], []), ([], [5]), ([0], [3]), ([], [0, 1]), ([4], [5]), ([], [])]:
            self.spoil(24, spoiled)
            self.bad(25, bad)
            self.disks.scrub_place = 4
            self.assertEqual(self.files.scrub(2), (len(spoiled) + len(bad), []))
            right = self.steps(24) + [("write", disk, 24, self.right[24][disk]) for disk in spoiled]
            right += self.steps(25) + [("write", disk, 25, self.right[25][disk]) for disk in bad]
            self.assertEqual(self.disks.take(), right + SYNC)
            self.all_right()

    def test_all_steps_come_before_the_sync(self):
        for at in (0, 2, 24):
            self.spoil(at, [5])
        self.assertEqual(self.files.scrub(6), (3, []))
        seen = self.disks.take()
        self.assertEqual([row[:3] for row in seen if row[0] != "ask"],
                         [("write", 5, 0), ("write", 5, 2), ("write", 5, 24), ("sync",)])
        self.assertEqual([self.disks.pending(disk) for disk in ALL], [0] * 6)

    def test_lost_stripes(self):
        self.spoil(24, [0, 1])
        self.bad(25, [0, 1, 5])
        before = picture(self.disks)
        self.assertEqual(self.files.scrub(8), (0, [0, 1]))
        self.assertEqual(self.disks.take(), self.steps(*self.places, 0, 1) + SYNC)
        self.assertEqual(picture(self.disks)[0], before[0])
        self.disks.scrub_place = 5
        self.assertEqual(self.files.scrub(6), (0, [1, 0]))
        self.disks.scrub_place = 4
        self.assertEqual(self.files.scrub(8), (0, [0, 1, 0, 1]))

    def test_a_wrong_sector_that_reading_would_not_look_at(self):
        self.spoil(24, [5])
        self.files.read(F, 0, 96)
        self.disks.take()
        self.disks.scrub_place = 4
        self.assertEqual(self.files.scrub(1), (1, []))
        self.assertEqual(self.disks.take(), self.steps(24) + [("write", 5, 24, self.right[24][5])] + SYNC)

    def test_disks_that_are_away_and_blank(self):
        self.disks.away(1)
        self.disks.away(4)
        self.spoil(2, [0])
        there = [0, 2, 3, 5]
        self.assertEqual(self.files.scrub(6), (1, []))
        right = asks(0, there) + asks(1, there) + asks(2, there) + writes(2, self.right[2][1], [0])
        self.assertEqual(self.disks.take(), right + asks(3, there) + asks(24, there) + asks(25, there) + SYNC)
        self.disks.blank(1)
        self.disks.blank(4)
        self.assertEqual(self.files.scrub(6), (12, []))
        self.all_right()

    def test_what_was_written_before_all_comes_back(self):
        for disk in ALL:
            self.disks.blank(disk)
            self.assertEqual(self.files.scrub(6), (6, []))
            self.all_right()
        self.assertEqual(self.files.read(F, 0, 100), list(numbered(100)))


class TestArguments(ScrubCase):
    def test_wrong_numbers_of_steps(self):
        before = picture(self.disks), self.disks.counts()
        for steps in (0, 9, -1, 10, 100, True, False, "1", None, (1,), [2]):
            self.assertEqual(outcome(self.files.scrub, steps), ("InvalidArgument",))
        self.assertEqual((picture(self.disks), self.disks.counts(), self.disks.take()), (*before, []))

    def test_what_is_told(self):
        told = self.files.scrub(1)
        self.assertIsInstance(told, tuple)
        self.assertIsInstance(told[1], list)


class TestPower(ScrubCase):
    def broken(self):
        """Two writes in place 1, none in place 2, one in place 4."""
        self.setUp()
        self.spoil(1, [0, 3])
        self.bad(24, [2])

    def test_power_fails_at_each_operation(self):
        for many, place, seen in [(0, 2, 12), (1, 2, 13), (2, 5, 14 + 18), (3, 6, 14 + 19 + 6)]:
            for kept in ([], [[True] * 3] * 6, [[True]]):
                self.broken()
                self.disks.fail_after(many)
                self.assertEqual(outcome(self.files.scrub, 6), ("PowerOff",))
                self.assertEqual(self.disks.scrub_place, place)
                self.assertEqual(len(self.disks.take()), seen)
                self.closed()
                self.disks.power(kept)
                self.closed()
                self.assertEqual(self.disks.scrub_place, place)
                self.files = Files(self.disks, False)
                self.assertEqual(self.files.read(F, 0, 100), list(numbered(100)))
                self.assertEqual(self.files.scrub(6)[1], [])
                self.all_right()

    def test_just_as_many_operations(self):
        self.broken()
        self.disks.fail_after(4)
        self.assertEqual(self.files.scrub(6), (3, []))
        self.all_right()
        self.assertEqual(outcome(self.files.scrub, 1), ("PowerOff",))
        self.assertEqual(self.disks.scrub_place, 1)

    def test_a_sync_that_fails(self):
        self.disks.fail_after(0)
        self.assertEqual(outcome(self.files.scrub, 2), ("PowerOff",))
        self.assertEqual((self.disks.scrub_place, self.disks.take()), (2, self.steps(0, 1)))

    def test_with_disks_that_are_away(self):
        self.broken()
        self.disks.away(0)
        self.disks.fail_after(2)
        self.assertEqual(outcome(self.files.scrub, 6), ("PowerOff",))
        self.assertEqual(self.disks.scrub_place, 6)
