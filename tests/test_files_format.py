"""Points 28 and 30: formatting."""

from rotward.files import Files
from tests.files_case import ALL, AREA, HEAD, FilesCase, tail_of
from tests.watched import SYNC, Watched, asks, outcome, picture, writes

IMAGE = [0, 0, 0, 3] + [0] * 28
TAIL = tail_of(0, 0, 1, 1)
FORMATTING = (writes(2, IMAGE, ALL) + SYNC + writes(0, TAIL, ALL) + SYNC + writes(1, TAIL, ALL) + SYNC)


class TestFormatting(FilesCase):
    def setUp(self):
        self.disks = Watched(*self.sizes)

    def test_what_is_written_in_which_order(self):
        Files(self.disks, True)
        self.assertEqual(self.disks.take(), FORMATTING)
        self.assertEqual(self.disks.counts(), (0, 18, 3))
        self.assertEqual(TAIL[:19], HEAD + [0, 0, 0, 0, 0, 0, 0, 0, 0, 0, 1, 0, 0, 0, 1])

    def test_other_sizes(self):
        for sizes in [(4, 48, 1, 1), (8, 200, 4, 4), (5, 99, 2, 3)]:
            disks = Watched(*sizes)
            files = Files(disks, True)
            all_disks = range(sizes[0])
            self.assertEqual(disks.take(), writes(2, IMAGE, all_disks) + SYNC + writes(0, TAIL, all_disks)
                             + SYNC + writes(1, TAIL, all_disks) + SYNC)
            size = (sizes[1] - 2) // 4
            self.assertEqual(files.status(), (0, 0, size - 1, sizes[1] - 2 - 2 * size))

    def test_flags_and_nothing_there(self):
        files = Files(self.disks, True)
        self.assertIs(self.disks.formatted, True)
        self.assertIs(self.disks.in_use, True)
        self.assertEqual(self.disks.scrub_place, 0)
        self.assertEqual((files.tree(), files.snapshots(), files.status()), ([], [], (0, 0, 10, 24)))
        self.assertEqual(self.disks.counts(), (0, 18, 3))

    def test_twice(self):
        Files(self.disks, True)
        for _ in range(2):
            before = picture(self.disks), self.disks.counts()
            self.assertEqual(outcome(Files, self.disks, True), ("AlreadyFormatted",))
            self.assertEqual((picture(self.disks), self.disks.counts()), before)
            self.disks.power([])

    def test_power_that_is_off_is_told_first(self):
        for _ in range(2):
            self.disks.fail_after(0)
            outcome(self.disks.sync)
            before = picture(self.disks), self.disks.counts()
            self.assertEqual(outcome(Files, self.disks, True), ("PowerOff",))
            self.assertEqual((picture(self.disks), self.disks.counts()), before)
            self.disks.power([])
            if not self.disks.formatted:
                Files(self.disks, True)

    def test_disks_that_are_away(self):
        for gone in ([0], [5], [1, 2, 4], list(ALL)):
            disks = Watched(*self.sizes)
            for disk in gone:
                disks.away(disk)
            files = Files(disks, True)
            self.assertEqual(disks.take(), FORMATTING)
            self.assertEqual(disks.counts(), (0, 3 * (6 - len(gone)), 3))
            self.assertEqual((disks.formatted, disks.in_use, files.tree()), (True, True, []))

    def test_disks_with_other_bytes_on_them(self):
        for sector in range(48):
            self.spoil(sector, ALL)
        Files(self.disks, True)
        self.assertEqual(self.disks.take(), FORMATTING)


class TestPower(FilesCase):
    def setUp(self):
        self.disks = Watched(*self.sizes)

    def test_power_fails_at_each_operation(self):
        for many in range(len(FORMATTING) + 1):
            for kept in ([], [[True] * 20] * 6, [[True, False] * 9, [], [False] + [True] * 9]):
                self.disks = Watched(*self.sizes)
                self.disks.fail_after(many)
                told = outcome(Files, self.disks, True)
                self.assertEqual(self.disks.take(), FORMATTING[:many])
                if many == len(FORMATTING):
                    self.assertEqual((told[0], self.disks.formatted, self.disks.in_use), ("done", True, True))
                    continue
                self.assertEqual(told, ("PowerOff",))
                self.assertIs(self.disks.formatted, False)
                self.assertIs(self.disks.in_use, False)
                self.assertEqual((self.disks.losses(), self.disks.is_on()), (1, False))
                self.disks.power(kept)
                self.assertEqual(outcome(Files, self.disks, False), ("NotFormatted",))
                files = Files(self.disks, True)
                self.assertEqual(self.disks.take(), FORMATTING)
                self.assertEqual(self.contents(files), ({None: []}, (0, 0, 10, 24)))

    def test_writes_to_disks_that_are_away_count_among_the_operations(self):
        self.disks.away(0)
        self.disks.away(3)
        for many in range(21):
            self.disks.fail_after(many)
            self.assertEqual(outcome(Files, self.disks, True), ("PowerOff",))
            self.assertEqual(self.disks.take(), FORMATTING[:many])
            self.assertEqual((self.disks.formatted, self.disks.in_use), (False, False))
            self.disks.power([[True] * many] * 6)
        self.disks.fail_after(21)
        self.assertEqual(outcome(Files, self.disks, True)[0], "done")
        self.assertIs(self.disks.is_on(), True)

    def test_a_failure_that_is_set_for_later(self):
        self.disks.fail_after(22)
        files = Files(self.disks, True)
        self.assertEqual(files.scrub(1), (0, []))
        self.assertEqual(outcome(files.scrub, 1), ("PowerOff",))
        self.closed(files)


class TestWhatWasWritten(FilesCase):
    def test_on_the_media(self):
        self.disks.power([])
        for disk in ALL:
            for sector, content in [(0, TAIL), (1, TAIL), (2, IMAGE), (3, None), (24, None)]:
                self.assertEqual(self.disks.cell(disk, sector), content)
        Files(self.disks, False)
        self.assertEqual(self.disks.take()[:18], asks(0, ALL) + asks(1, ALL) + asks(AREA[0], ALL))
