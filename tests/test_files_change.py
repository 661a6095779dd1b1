"""Points 19 to 24, 29 and 34: changes over disks."""

from copy import deepcopy

from rotward.words import make_word
from tests.files_case import ALL, AREA, D, F, G, REGION, FilesCase, long_names, numbered, tail_of
from tests.file_rules import block_sectors
from tests.watched import SYNC, asks, outcome, picture, word_writes, writes


def word_of(data):
    """The word of a block that begins with these bytes."""
    block = list(data) + [0] * (96 - len(data))
    return make_word([block[:32], block[32:64], block[64:]], 6)


def commit(area, at, data, tail):
    """What a commit writes behind the stripes: a log block and the tails."""
    seen = []
    for number, row in enumerate(block_sectors(data)):
        seen += writes(AREA[area] + at + number, row, ALL)
    return seen + SYNC + writes(0, tail, ALL) + SYNC + writes(1, tail, ALL) + SYNC


F_PATH = [1, 1, 102]
NEW_F = [("file", F), ("put", F, 0, numbered(100))]


class TestWhatIsWritten(FilesCase):
    def test_a_folder(self):
        self.assertIsNone(self.files.change([("folder", D)]))
        self.assertEqual(self.disks.take(), commit(0, 1, [1, 0, 1, 1, 100], tail_of(1, 0, 1, 2)))
        self.assertEqual(self.files.tree(), [(D, None)])

    def test_a_put_of_two_blocks(self):
        self.files.change(NEW_F)
        data = numbered(100)
        group = [2, 1, *F_PATH, 2, *F_PATH, 100, 2, 0, 0, 1, 1]
        self.assertEqual(self.disks.take(), word_writes(24, word_of(data[:96]))
                         + word_writes(25, word_of(data[96:])) + commit(0, 1, group, tail_of(1, 0, 1, 2)))
        self.assertEqual(self.disks.counts(), (0, 18 + 12 + 18, 6))

    def test_a_put_into_a_block_that_is_read(self):
        self.files.change(NEW_F)
        self.disks.take()
        self.files.change([("put", F, 95, (7, 7)), ("put", F, 0, (5,))])
        data = list(numbered(96))
        data[95] = 7
        group = [2, 2, *F_PATH, 100, 2, 0, 2, 1, 3, 2, *F_PATH, 100, 1, 0, 4]
        right = asks(24, range(4)) + asks(25, range(4))
        right += word_writes(27, word_of([7] + list(numbered(100)[97:])))
        right += word_writes(28, word_of([5] + data[1:])) + commit(0, 2, group, tail_of(2, 0, 1, 3))
        self.assertEqual(self.disks.take(), right)
        self.assertEqual(self.files.read(F, 93, 100), [94, 95, 7, 7, 98, 99, 100])

    def test_a_block_that_no_change_needs_is_not_read(self):
        self.files.change(NEW_F)
        self.disks.take()
        self.files.change([("put", F, 96, (1, 2, 3, 4, 5)), ("put", F, 0, (9,) * 96), ("trim", F, 50)])
        self.assertFalse([row for row in self.disks.take() if row[0] == "ask"])
        self.assertEqual(self.files.read(F, 0, 50), [9] * 50)

    def test_stripes_that_are_not_used_in_the_end_are_not_written(self):
        self.files.change(NEW_F + [("put", F, 0, (3,)), ("trim", F, 20)])
        seen = [row[2] for row in self.disks.take() if row[0] == "write" and row[2] >= REGION]
        self.assertEqual(seen, [26] * 6)
        self.files.change([("put", F, 0, (4,)), ("drop", F)])
        seen = [row for row in self.disks.take() if row[0] == "write" and row[2] >= REGION]
        self.assertEqual((seen, self.files.tree()), ([], []))

    def test_the_same_stripe_is_read_as_often_as_it_is_needed(self):
        self.files.change(NEW_F + [("snap", "s")])
        self.disks.take()
        self.files.change([("put", F, 3, (1,)), ("back", "s"), ("put", F, 4, (2,)), ("put", F, 5, (3,))])
        self.assertEqual(self.disks.take()[:9], asks(24, range(4)) * 2 + word_writes(28, word_of(
            (1, 2, 3, 4, 2, 3) + numbered(96)[6:]))[:1])
        self.assertEqual(self.files.read(F, 0, 8), [1, 2, 3, 4, 2, 3, 7, 8])

    def test_reading_goes_on_over_all_disks_that_are_there(self):
        self.files.change(NEW_F)
        self.spoil(24, [2])
        self.disks.away(4)
        self.disks.take()
        self.files.change([("put", F, 3, (1,))])
        self.assertEqual(self.disks.take()[:6], asks(24, [0, 1, 2, 3, 5]) + word_writes(26, word_of(
            (1, 2, 3, 1) + numbered(96)[4:]))[:1])

    def test_disks_that_are_away(self):
        for gone in ([0], [1, 3], list(ALL)):
            self.setUp()
            for disk in gone:
                self.disks.away(disk)
            before = self.disks.counts()[1]
            self.files.change(NEW_F)
            self.assertEqual(len([row for row in self.disks.take() if row[0] == "write"]), 30)
            self.assertEqual(self.disks.counts()[1] - before, 5 * (6 - len(gone)))
            self.assertEqual(self.files.tree(), [(F, 100)])

    def test_an_empty_list(self):
        self.files.change(NEW_F)
        before = picture(self.disks), self.contents(), self.disks.counts()
        self.disks.take()
        self.assertIsNone(self.files.change([]))
        self.assertEqual(self.disks.take(), [])
        self.assertEqual(picture(self.disks), before[0])
        self.assertEqual(self.contents(), before[1])

    def test_changes_that_change_nothing_are_a_commit(self):
        self.files.change(NEW_F)
        self.disks.take()
        self.files.change([("put", F, 100, ()), ("trim", F, 100)])
        group = [2, 2, *F_PATH, 100, 0, 3, *F_PATH, 100, 2]
        self.assertEqual(self.disks.take(), commit(0, 2, group, tail_of(2, 0, 1, 3)))

    def test_from_one_area_to_the_other_and_back(self):
        areas = []
        for number in range(40):
            self.files.change([("folder", D)] if number % 2 == 0 else [("drop", D)])
            seen = [row[2] for row in self.disks.take() if row[:2] == ("write", 0)]
            self.assertEqual(seen[1:], [0, 1])
            areas.append(seen[0])
            self.assertEqual(self.disks.cell(0, 0), self.disks.cell(5, 1))
        area0, area1 = list(range(2, 13)), list(range(13, 24))
        self.assertEqual(areas, (area0[1:] + area1 + area0 + area1)[:40])
        self.restart()
        self.assertEqual((self.files.tree(), self.files.status()[0]), ([], 40))

    def test_a_new_image(self):
        for number in range(10):
            self.files.change([("folder", D)] if number % 2 == 0 else [("drop", D)])
        self.disks.take()
        self.assertEqual(self.files.status(), (10, 10, 0, 24))
        self.files.change(NEW_F + [("snap", "s"), ("folder", D)])
        thing = [1, 100, 2, 0, 1]
        image = [11, 2, 1, 1, 100, 0, *F_PATH, *thing, 1, 1, 115, 1, *F_PATH, *thing]
        data = numbered(100)
        self.assertEqual(self.disks.take(), word_writes(24, word_of(data[:96]))
                         + word_writes(25, word_of(data[96:])) + commit(1, 0, image, tail_of(11, 1, 1, 1)))
        self.assertEqual(self.files.status(), (11, 0, 10, 22))

    def test_a_group_of_several_sectors_that_just_fits(self):
        for free, groups, left in [(5, 6, 1), (4, 7, 0), (3, 0, 10)]:
            self.setUp()
            for number in range(10 - free):
                self.files.change([("folder", D)] if number % 2 == 0 else [("drop", D)])
            # Eight records of 15 bytes, the number of them, and the head: 125 bytes, so 4 sectors.
            self.files.change(long_names(4) + [("drop", path) for _, path in long_names(4)])
            self.assertEqual(self.files.status()[:3], (11 - free, groups, left))


class TestRefused(FilesCase):
    def setUp(self):
        super().setUp()
        self.files.change(NEW_F + [("folder", D), ("file", G), ("put", G, 0, numbered(200, 50)),
                                   ("snap", "s")])

    def test_problems_of_the_plan_come_before_any_reading(self):
        put = ("put", F, 1, (1,))
        for index, problem, changes in [
                (0, ("root",), [("folder", ())]), (1, ("exists", D), [put, ("file", D)]),
                (2, ("no folder", F), [put, put, ("folder", ("f", "x"))]),
                (1, ("nothing", ("x",)), [put, ("put", ("x",), 0, ())]),
                (1, ("no file", D), [put, ("trim", D, 0)]), (1, ("behind end", F), [put, ("trim", F, 101)]),
                (0, ("behind end", F), [("put", F, 101, ())]), (0, ("in itself", D), [("move", D, D)]),
                (0, ("snapshot", "s"), [("snap", "s")]), (0, ("no snapshot", "t"), [("back", "t")]),
                (1, ("no snapshot", "t"), [put, ("forget", "t")]),
                (1, ("no room",), [put, ("put", F, 0, (1,) * 1729)]),
                (0, ("behind end", F), [("put", F, 101, (1,) * 3000)])]:
            self.assertEqual(self.refused((index, problem), "change", changes), [])

    def test_the_first_problem(self):
        changes = [("file", ("x",)), ("file", ("x",)), ("file", ("x",)), ("drop", ())]
        self.refused((1, ("exists", ("x",))), "change", changes)
        self.files.change(changes[:1])

    def test_just_enough_room_and_one_block_too_few(self):
        self.assertEqual(self.files.status()[3], 19)
        self.refused((0, ("no room",)), "change", [("put", F, 96, (1,) * (96 * 19 + 1))])
        self.files.change([("put", F, 96, (1,) * (96 * 19))])
        self.assertEqual(self.files.status()[3], 0)
        self.refused((0, ("no room",)), "change", [("put", F, 0, (1,))])
        self.files.change([("put", F, 0, ()), ("forget", "s")])
        self.assertEqual(self.files.status()[3], 1)
        self.files.change([("put", F, 0, (1,))])

    def test_a_lost_stripe(self):
        self.bad(24, [0, 1, 2])
        changes = [("put", F, 0, (1,) * 96), ("put", F, 1, (2,))]
        self.files.change([("snap", "t")] + changes + [("back", "t"), ("forget", "t")])
        told = (1, ("lost", F))
        seen = self.refused(told, "change", [("put", G, 5, (1,)), ("put", F, 0, (1,))])
        self.assertEqual(seen, asks(26, range(4)) + asks(24, ALL))

    def test_all_are_read_though_one_is_lost(self):
        self.bad(24, ALL)
        self.bad(28, ALL)
        changes = [("file", ("x",)), ("put", F, 95, (2, 2)), ("put", G, 195, (3,)), ("put", F, 5, (4,)),
                   ("put", G, 0, (3,))]
        seen = self.refused((1, ("lost", F)), "change", changes)
        self.assertEqual(seen, asks(24, ALL) + asks(25, range(4)) + asks(28, ALL) + asks(26, range(4)))
        seen = self.refused((0, ("lost", G)), "change", changes[2:3] + changes[1:2])
        self.assertEqual(seen, asks(28, ALL) + asks(24, ALL) + asks(25, range(4)))

    def test_the_path_at_that_time(self):
        self.bad(25, ALL)
        changes = [("move", F, ("d", "x")), ("put", ("d", "x"), 97, (2,)), ("drop", D)]
        self.refused((1, ("lost", ("d", "x"))), "change", changes)

    def test_one_that_is_needed_a_second_time_and_in_a_file_of_a_snapshot(self):
        self.files.change([("put", F, 0, (8,) * 96)])
        self.bad(24, ALL)
        self.refused((1, ("lost", F)), "change", [("back", "s"), ("put", F, 7, (2,))])

    def test_a_lost_stripe_comes_after_all_other_problems(self):
        self.bad(24, ALL)
        changes = [("put", F, 5, (4,)), ("drop", ("x",))]
        self.assertEqual(self.refused((1, ("nothing", ("x",))), "change", changes), [])

    def test_disks_that_are_away(self):
        self.disks.away(1)
        self.disks.away(2)
        self.files.change([("put", F, 5, (4,))])
        self.disks.away(0)
        told = self.refused((0, ("lost", F)), "change", [("put", F, 6, (4,))])
        self.assertEqual(told, asks(29, [3, 4, 5]))
        self.files.change([("put", F, 0, (6,) * 96)])


class TestFull(FilesCase):
    def full(self, *changes):
        """The disks are full, which changes nothing but the counts."""
        before = picture(self.disks), self.contents()
        self.disks.take()
        self.assertEqual(outcome(self.files.change, list(changes)), ("DisksFull",))
        seen = self.disks.take()
        self.assertEqual((picture(self.disks), self.contents()), before)
        return seen

    def test_an_image_that_just_fits_and_one_byte_more(self):
        # 352 bytes are an area; the head has 4, the number of commits and those of the lists 3 more.
        self.files.change(long_names(22))
        rest = 352 - 4 - 3 - 22 * 15
        self.assertEqual(rest, 15)
        self.assertEqual(self.full(("folder", ("m" * 12,)), ("folder", ("k",))), [])
        self.assertEqual(self.full(("file", ("m" * 11,))), [])
        self.files.change([("folder", ("m" * 12,))])
        self.assertEqual(len(self.files.tree()), 23)
        self.full(("snap", "s"))
        self.restart()
        self.assertEqual(len(self.files.tree()), 23)
        self.full(("snap", "s"))
        self.files.change([("drop", ("m" * 12,)), ("file", ("m" * 10,))])

    def test_a_group_that_would_fit(self):
        others = long_names(4, "k")
        self.files.change(others + long_names(16) + [("drop", path) for _, path in others])
        self.assertEqual(self.files.status(), (1, 0, 3, 24))
        self.full(("snap", "s"))
        self.full(("move", *[path for _, path in long_names(1)], ("x",)), ("snap", "s"))

    def test_stripes_are_read_before_and_a_lost_one_is_told_first(self):
        self.files.change(NEW_F + long_names(20))
        put = ("put", F, 3, (1,))
        self.assertEqual(self.full(put, ("snap", "s")), asks(24, range(4)))
        self.bad(24, ALL)
        self.refused((1, ("lost", F)), "change", [("snap", "s"), put])
        self.assertEqual(self.full(("put", F, 96, (5,) * 4), ("snap", "s")), [])

    def test_refused_is_told_first(self):
        self.files.change(long_names(20))
        self.refused((1, ("root",)), "change", [("snap", "s"), ("drop", ())])


class TestNothingIsShared(FilesCase):
    def test_what_is_passed_stays_and_may_change_later(self):
        changes = NEW_F + [("snap", "s"), ("put", F, 1, (200,))]
        before = deepcopy(changes)
        self.files.change(changes)
        self.assertEqual(changes, before)
        contents = self.contents()
        changes.clear()
        self.assertEqual(self.contents(), contents)
        self.assertEqual(self.contents(self.restart()), contents)

    def test_what_is_told_may_change_later(self):
        self.files.change(NEW_F + [("snap", "s")])
        before = self.contents()
        for told in (self.files.tree(), self.files.tree("s"), self.files.snapshots(),
                     self.files.read(F, 0, 100), self.files.scrub(8)[1]):
            self.assertIsInstance(told, list)
            told.append(0)
            told[0] = 99
            told.clear()
        self.assertEqual(self.contents(), before)

    def test_files_on_several_disks(self):
        first = (self.disks, self.files)
        self.setUp()
        self.files.change(NEW_F)
        self.assertEqual((first[1].tree(), first[1].status()), ([], (0, 0, 10, 24)))
        first[0].power([])
        self.assertEqual(outcome(first[1].tree), ("FilesClosed",))
        self.assertEqual(self.files.tree(), [(F, 100)])
