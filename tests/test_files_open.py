"""Points 26, 28, 31 and 36: openings, and files that are lost."""

from rotward.files import Files
from tests.files_case import ALL, AREA, D, F, G, HEAD, FilesCase, long_names, numbered, tail_of
from tests.file_rules import block_sectors
from tests.watched import SYNC, Watched, asks, outcome, picture, writes


def both_tails(first, content):
    """What an opening writes."""
    return writes(first, content, ALL) + SYNC + writes(1 - first, content, ALL) + SYNC


class OpenCase(FilesCase):
    def setUp(self):
        """Two commits: an image of one sector, and two groups of one sector each, in area 0."""
        super().setUp()
        self.files.change([("file", F), ("put", F, 0, numbered(100))])
        self.files.change([("folder", D), ("snap", "s")])
        self.before = self.contents()
        self.assertEqual(self.before[1], (2, 2, 8, 22))
        self.tail = tail_of(2, 0, 1, 3)
        self.disks.power([])
        self.disks.take()

    def lay(self, sector, content, disks=ALL):
        """The media of these disks get a content."""
        for disk in disks:
            self.disks.rot(disk, sector, content)

    def found(self, first=0, sectors=(2, 3, 4)):
        """The files are found as they were; the sectors are asked, and the tails are written."""
        self.files = Files(self.disks, False)
        right = asks(0, ALL) + asks(1, ALL)
        for sector in sectors:
            right += asks(sector, ALL)
        self.assertEqual(self.disks.take(), right + both_tails(first, self.tail))
        self.assertEqual((self.disks.in_use, self.disks.formatted), (True, True))
        self.assertEqual(self.contents(), self.before)

    def lost(self, sectors=(2, 3, 4)):
        """The files are lost; the sectors were asked, and nothing is changed but the counts."""
        before = picture(self.disks)
        self.assertEqual(outcome(Files, self.disks, False), ("FilesLost",))
        right = asks(0, ALL) + asks(1, ALL)
        for sector in sectors:
            right += asks(sector, ALL)
        self.assertEqual(self.disks.take(), right)
        self.assertEqual(picture(self.disks), before)
        self.assertIs(self.disks.in_use, False)


class TestOpening(OpenCase):
    def test_without_faults(self):
        self.found()
        self.files.change([("drop", D)])
        self.assertEqual(self.files.status(), (3, 3, 7, 22))

    def test_errors_in_their_order(self):
        self.disks.in_use = True
        self.assertEqual(outcome(Files, self.disks, False), ("FilesOpen",))
        self.disks.formatted = False
        self.assertEqual(outcome(Files, self.disks, False), ("NotFormatted",))
        self.disks.fail_after(0)
        outcome(self.disks.sync)
        self.disks.in_use = True
        self.assertEqual(outcome(Files, self.disks, False), ("PowerOff",))
        self.assertEqual(self.disks.take(), [])

    def test_new_disks(self):
        disks = Watched(*self.sizes)
        self.assertEqual(outcome(Files, disks, False), ("NotFormatted",))
        self.assertEqual((disks.take(), disks.formatted, disks.in_use), ([], False, False))

    def test_files_that_are_open(self):
        self.found()
        before = picture(self.disks), self.disks.counts()
        self.assertEqual(outcome(Files, self.disks, False), ("FilesOpen",))
        self.assertEqual((picture(self.disks), self.disks.counts()), before)
        self.assertEqual(self.contents(), self.before)

    def test_files_before_the_loss_stay_closed(self):
        old = self.files
        self.closed(old)
        self.found()
        self.closed(old)
        self.assertEqual(self.contents(), self.before)

    def test_a_state_in_the_other_area(self):
        self.files = Files(self.disks, False)
        many = 2
        while self.files.status()[1]:
            self.files.change([("file", G)] if many % 2 == 0 else [("drop", G)])
            many += 1
        self.assertEqual(self.files.status()[:3], (many, 0, 11 - 2))
        self.before = self.contents()
        self.tail = tail_of(many, 1, 2, 2)
        self.disks.power([])
        self.disks.take()
        self.found(0, (13, 14))

    def test_disks_that_are_away(self):
        self.disks.away(1)
        self.disks.away(4)
        there = [0, 2, 3, 5]
        self.files = Files(self.disks, False)
        right = [row for sector in range(5) for row in asks(sector, there)]
        self.assertEqual(self.disks.take(), right + both_tails(0, self.tail))
        self.assertEqual(self.files.tree(), [(D, None), (F, 100)])

    def test_scrub_place_stays(self):
        self.disks.scrub_place = 4
        self.found()
        self.assertEqual(self.disks.scrub_place, 4)


class TestTails(OpenCase):
    def test_equal_numbers_of_commits(self):
        self.lay(1, tail_of(2, 1, 1, 1))
        self.found(0)
        self.disks.power([])
        self.disks.take()
        self.lay(0, tail_of(2, 1, 1, 1))
        self.lost([13])

    def test_the_one_with_more_commits(self):
        self.lay(0, tail_of(1, 0, 1, 2))
        self.found(1)
        self.disks.power([])
        self.disks.take()
        self.lay(1, tail_of(1, 0, 1, 2))
        self.found(0)

    def test_fewer_commits_and_an_area_with_more(self):
        self.lay(0, tail_of(1, 1, 11, 11))
        self.found(1)

    def test_one_tail_alone(self):
        for place in (0, 1):
            self.bad(place, ALL)
            self.found(1 - place)
            self.disks.power([])
            self.disks.take()
            self.lay(place, [0] * 32)
            self.found(1 - place)
            self.disks.power([])
            self.disks.take()

    def test_one_alone_with_fewer_commits_than_there_were(self):
        self.lay(0, tail_of(1, 0, 1, 2))
        self.bad(1, ALL)
        self.files = Files(self.disks, False)
        self.assertEqual(self.disks.take()[-14:], both_tails(0, tail_of(1, 0, 1, 2)))
        self.assertEqual(self.files.tree(), [(F, 100)])
        self.assertEqual(self.files.status(), (1, 1, 9, 22))

    def test_no_tail(self):
        self.bad(0, ALL)
        self.bad(1, ALL)
        self.lost([])
        for content in ([0] * 32, HEAD + [0] * 6 + [2] + [0] * 21, self.tail[:31] + [1], [70] * 32):
            self.lay(0, content)
            self.lay(1, content)
            self.lost([])

    def test_votes_about_tails(self):
        self.spoil(0, [2])
        self.spoil(1, [3])
        self.found(0)
        self.disks.power([])
        self.disks.take()
        self.spoil(0, [2, 5])
        self.found(1)
        self.disks.power([])
        self.disks.take()
        self.spoil(0, [2, 5])
        self.spoil(1, [0, 5])
        self.lost([])

    def test_tails_that_few_disks_have(self):
        self.bad(0, [0, 1, 2, 3])
        self.found(0)
        self.disks.power([])
        self.disks.take()
        self.bad(0, [0, 1, 2, 3, 5])
        self.found(1)
        self.disks.power([])
        self.disks.take()
        self.bad(0, [0, 1, 2, 3, 5])
        self.bad(1, [0, 1, 2, 3, 5])
        self.lost([])

    def test_more_sectors_than_an_area_has(self):
        for counting in (12, 13, 255):
            self.lay(0, tail_of(3, 0, 1, counting))
            self.lost([])
        self.lay(0, tail_of(3, 0, 1, 2)[:15] + [1, 0, 0, 2] + [0] * 13)
        self.lost([])
        # The other tail would do, but it does not count.
        self.lay(0, tail_of(3, 0, 1, 11))
        self.lost(range(2, 13))
        self.lay(0, tail_of(3, 1, 1, 11))
        self.lost(range(13, 24))
        self.lay(0, tail_of(1, 0, 1, 12))
        self.found(1)

    def test_an_area_that_is_just_filled(self):
        self.files = Files(self.disks, False)
        for number in range(8):
            self.files.change([("file", G)] if number % 2 == 0 else [("drop", G)])
        self.assertEqual(self.files.status()[:3], (10, 10, 0))
        self.before = self.contents()
        self.tail = tail_of(10, 0, 1, 11)
        self.disks.power([])
        self.disks.take()
        self.found(0, range(2, 13))

    def test_no_sectors(self):
        self.lay(0, tail_of(3, 0, 0, 0))
        self.lost([])
        self.lay(0, tail_of(3, 0, 1, 0))
        self.lost([])


class TestWhatCounts(OpenCase):
    def test_sectors_that_cannot_be_told(self):
        for sector in (2, 3, 4):
            self.setUp()
            self.spoil(sector, [0, 3])
            self.lost()
            self.bad(sector, [0])
            self.found()
            self.disks.power([])
            self.disks.take()
            self.bad(sector, [0, 1, 2, 4, 5])
            self.lost()
            self.spoil(sector, [0, 1, 2])
            self.lost()

    def test_all_are_asked_in_any_case(self):
        self.bad(2, ALL)
        self.lost()
        self.bad(3, ALL)
        self.lost()

    def test_sectors_that_are_wrong_on_few_disks(self):
        for sector in range(5):
            self.spoil(sector, [sector])
        self.found()
        for sector in range(5):
            self.bad(sector, [0, 1, 5])
        self.disks.power([])
        self.disks.take()
        self.found()

    def test_numbers_that_are_not_those_of_the_sectors(self):
        for numbers in [(3, 0, 1, 3), (3, 0, 1, 2), (9, 0, 1, 3), (3, 0, 2, 3), (3, 0, 0, 3), (3, 0, 3, 3),
                        (3, 0, 4, 3)]:
            self.lay(0, tail_of(*numbers))
            self.lost(range(2, 2 + numbers[3]))
        self.lay(0, [0] * 32)
        self.found(1)

    def test_further_sectors(self):
        self.lay(0, tail_of(3, 0, 1, 4))
        self.lost(range(2, 6))
        self.lay(5, [255] * 32)
        self.lost(range(2, 6))
        self.lay(5, [0] * 32)
        self.lost(range(2, 6))

    def test_damaged_bytes(self):
        image, group = self.disks.cell(0, 2), self.disks.cell(0, 3)
        self.lay(2, image[:3] + [4] + image[4:])
        self.lost()
        self.lay(2, [0, 0, 0, 2] + image[4:])
        self.lost()
        self.lay(2, [0, 0, 0, 29] + image[4:])
        self.lost()
        self.lay(2, image)
        self.lay(3, group[:5] + [9] + group[6:])
        self.lost()
        self.lay(3, [0, 0, 1, 0] + group[4:])
        self.lost()
        self.lay(3, group)
        self.found()

    def test_what_stands_behind_the_bytes_is_not_looked_at_and_kept(self):
        image = self.disks.cell(0, 2)
        self.lay(2, image[:31] + [7])
        self.found()
        self.assertEqual(self.files.scrub(8)[0], 0)
        self.assertEqual(self.disks.cell(3, 2), image[:31] + [7])

    def test_data_that_were_made_by_hand(self):
        path, name = [1, 1, 120], [1, 115]
        for at, row in enumerate(block_sectors([7, 1, *path, 1, 5, 1, 3, 1, *name, 1, 1, 1, 121, 0])
                                 + block_sectors([2, 0, 1, 1, 122, 7, 1, 115])):
            self.lay(AREA[1] + at, row)
        self.lay(1, tail_of(8, 1, 1, 2))
        self.files = Files(self.disks, False)
        self.assertEqual(self.files.tree(), [(("x",), 5), (("z",), None)])
        self.assertEqual((self.files.snapshots(), self.files.status()), ([], (8, 1, 9, 23)))
        self.assertEqual(self.disks.take()[12:],
                         asks(13, ALL) + asks(14, ALL) + both_tails(1, tail_of(8, 1, 1, 2)))


class TestPower(OpenCase):
    def test_power_fails_at_each_operation(self):
        kept = [[], [[True] * 9] * 6, [[True] * 9] * 3, [[True], [], [True]], [[False, True]] * 6]
        for first in (0, 1):
            for many in range(15):
                for choice in kept:
                    self.setUp()
                    if first:
                        self.lay(0, tail_of(1, 0, 1, 2))
                    self.disks.fail_after(many)
                    told = outcome(Files, self.disks, False)
                    right = [row for sector in range(5) for row in asks(sector, ALL)]
                    self.assertEqual(self.disks.take(), right + both_tails(first, self.tail)[:many])
                    self.assertEqual(told[0], "PowerOff" if many < 14 else "done")
                    self.assertEqual((self.disks.in_use, self.disks.is_on()), (many == 14, many == 14))
                    self.disks.power(choice)
                    self.assertIs(self.disks.formatted, True)
                    self.files = Files(self.disks, False)
                    self.disks.take()
                    self.assertEqual(self.contents(), self.before)

    def test_with_disks_that_are_away(self):
        for many in range(14):
            self.setUp()
            self.disks.away(0)
            self.disks.away(2)
            self.disks.fail_after(many)
            self.assertEqual(outcome(Files, self.disks, False), ("PowerOff",))
            self.assertEqual(self.disks.take()[20:], both_tails(0, self.tail)[:many])
            self.disks.power([[True] * 9] * 3)
            self.files = Files(self.disks, False)
            self.assertEqual(self.contents(), self.before)

    def test_power_that_is_off(self):
        self.disks.fail_after(0)
        outcome(self.disks.sync)
        self.assertEqual(outcome(Files, self.disks, False), ("PowerOff",))
        self.assertEqual(self.disks.take(), [])
        self.disks.power([])
        self.found()


class TestMany(FilesCase):
    def test_a_state_of_several_sectors(self):
        self.files.change(long_names(8) + [("file", F), ("put", F, 0, numbered(700)), ("snap", "t")])
        self.files.change([("move", path, (path[0][::-1],)) for _, path in long_names(5)])
        before = self.contents()
        self.restart()
        self.assertEqual(self.contents(), before)
        self.assertEqual((len(self.files.tree()), len(self.files.tree("t"))), (9, 9))
