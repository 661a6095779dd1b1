"""Points 2, 19 and 35: reads over disks, and what files tell without reading: trees, snapshots, status."""

from itertools import combinations

from rotward.files import Files
from tests.files_case import ALL, D, F, G, FilesCase, numbered
from tests.rules import changed, depths, sector
from tests.watched import Watched, asks, outcome, picture

DATA = numbered(250)


class ReadCase(FilesCase):
    def setUp(self):
        """A file of three blocks, which has other stripes in a snapshot, an empty one, and a folder."""
        super().setUp()
        self.files.change([("folder", D), ("file", G), ("file", F), ("put", F, 0, numbered(230, 40))])
        self.files.change([("snap", "s"), ("put", F, 0, DATA), ("file", ("d", "x")),
                           ("put", ("d", "x"), 0, (5, 6, 7))])
        self.disks.take()

    def read(self, *arguments):
        """What is read, which changes nothing, and what was asked."""
        before = picture(self.disks)
        told = self.files.read(*arguments)
        self.assertEqual(picture(self.disks), before)
        return told, self.disks.take()


class TestRanges(ReadCase):
    def test_all_ranges_of_some_marks(self):
        marks = [0, 1, 95, 96, 97, 191, 192, 193, 249, 250]
        for start in marks:
            for end in marks:
                if start <= end:
                    told, seen = self.read(F, start, end)
                    self.assertEqual(told, list(DATA[start:end]))
                    blocks = sorted({at // 96 for at in range(start, end)})
                    self.assertEqual(seen, [row for block in blocks for row in asks(27 + block, range(4))])

    def test_ranges_without_bytes(self):
        for start in (0, 1, 96, 250):
            self.assertEqual(self.read(F, start, start), ([], []))
        self.assertEqual(self.read(G, 0, 0), ([], []))
        self.bad(27, ALL)
        self.assertEqual(self.read(F, 5, 5), ([], []))

    def test_to_the_length_and_one_more(self):
        self.assertEqual(self.read(F, 0, 250)[0], list(DATA))
        for start, end in [(0, 251), (250, 251), (251, 251), (500, 600)]:
            self.assertEqual(self.refused((0, ("behind end", F)), "read", F, start, end), [])
        self.refused((0, ("behind end", G)), "read", G, 0, 1)
        self.refused((0, ("behind end", F)), "read", F, 0, 231, "s")
        self.assertEqual(self.read(F, 229, 230, "s")[0], [numbered(230, 40)[229]])

    def test_what_a_trim_and_a_longer_put_leave(self):
        self.files.change([("trim", F, 100)])
        self.refused((0, ("behind end", F)), "read", F, 0, 101)
        self.files.change([("put", F, 100, (9, 9))])
        self.assertEqual(self.files.read(F, 95, 102), list(DATA[95:100]) + [9, 9])
        self.files.change([("trim", F, 0), ("put", F, 0, (1,))])
        self.assertEqual(self.files.read(F, 0, 1), [1])

    def test_wrong_ranges(self):
        for start, end in [(-1, 0), (-1, -1), (0, -1), (1, 0), (251, 250), (-5, 300), (5, 4)]:
            for path, *name in [(F,), ((),), (("x",),), (D, "s"), (F, "zz")]:
                before = picture(self.disks)
                self.assertEqual(outcome(self.files.read, path, start, end, *name), ("InvalidArgument",))
                self.assertEqual((picture(self.disks), self.disks.take()), (before, []))


class TestRefused(ReadCase):
    def test_problems_in_their_order(self):
        for problem, path, end, name in [
                (("no snapshot", "t"), F, 1, ["t"]), (("no snapshot", "t"), (), 1, ["t"]),
                (("no snapshot", "t"), ("x",), 999, ["t"]), (("root",), (), 0, []), (("root",), (), 999, []),
                (("root",), (), 0, ["s"]), (("nothing", ("x",)), ("x",), 0, []),
                (("nothing", ("f", "x")), ("f", "x"), 999, []), (("no file", D), D, 0, []),
                (("no file", D), D, 999, ["s"]), (("behind end", F), F, 251, []),
                (("nothing", ("d", "x")), ("d", "x"), 0, ["s"])]:
            self.assertEqual(self.refused((0, problem), "read", path, 0, end, *name), [])

    def test_trees_of_snapshots_that_are_none(self):
        for name in ("t", "f", ""):
            self.assertEqual(self.refused((0, ("no snapshot", name)), "tree", name), [])


class TestSnapshots(ReadCase):
    def test_bytes_now_and_then(self):
        self.assertEqual(self.read(F, 0, 230, "s"), (list(numbered(230, 40)), asks(24, range(4))
                                                     + asks(25, range(4)) + asks(26, range(4))))
        self.assertEqual(self.read(F, 0, 250, None)[0], list(DATA))
        self.assertEqual(self.files.read(F, 0, 5, snapshot="s"), list(numbered(230, 40)[:5]))

    def test_after_all_kinds_of_changes(self):
        self.files.change([("move", F, ("d", "y")), ("drop", G), ("snap", "t"), ("back", "s")])
        self.assertEqual(self.files.tree(), [(D, None), (F, 230), (G, 0)])
        self.assertEqual(self.files.tree("t"), [(D, None), (("d", "x"), 3), (("d", "y"), 250)])
        self.assertEqual(self.files.read(F, 0, 230), list(numbered(230, 40)))
        self.assertEqual(self.files.read(("d", "y"), 0, 250, "t"), list(DATA))
        self.files.change([("forget", "s"), ("back", "t"), ("forget", "t")])
        self.assertEqual(self.files.read(("d", "y"), 0, 250), list(DATA))
        self.assertEqual(self.files.snapshots(), [])
        self.assertEqual(self.files.status()[3], 24 - 4)


class TestLost(ReadCase):
    def test_bytes_of_a_lost_stripe(self):
        self.bad(28, [0, 1, 2])
        told, seen = self.read(F, 90, 200)
        self.assertEqual(told, list(DATA[90:96]) + [None] * 96 + list(DATA[192:200]))
        self.assertEqual(seen, asks(27, range(4)) + asks(28, ALL) + asks(29, range(4)))
        self.assertEqual(self.read(F, 100, 102), ([None, None], asks(28, ALL)))
        self.assertEqual(self.read(F, 0, 230, "s")[0], list(numbered(230, 40)))

    def test_all_are_lost_and_come_again(self):
        for disk in (0, 1, 2):
            self.disks.away(disk)
        told, seen = self.read(F, 0, 250)
        self.assertEqual(told, [None] * 250)
        self.assertEqual(seen, [row for at in (27, 28, 29) for row in asks(at, [3, 4, 5])])
        self.files.change([("put", F, 0, numbered(250, 3))])
        self.assertEqual(self.read(F, 0, 250)[0], [None] * 250)

    def test_which_disks_are_asked(self):
        for spoiled, bad, looked in [([], [], 4), ([], [0], 5), ([], [1, 3], 6), ([], [4], 4), ([], [4, 5], 4),
                                     ([5], [], 4), ([0], [], 6), ([3], [], 6), ([4], [], 4), ([4], [0], 6),
                                     ([5], [0], 5), ([0], [5], 6)]:
            self.setUp()
            self.spoil(27, spoiled)
            self.bad(27, bad)
            self.assertEqual(self.read(F, 0, 9), (list(DATA[:9]), asks(27, range(looked))))

    def test_which_disks_are_asked_if_some_are_away(self):
        for gone, seen in [([0], [1, 2, 3, 4]), ([1, 3], [0, 2, 4, 5]), ([4, 5], [0, 1, 2, 3]), ([5], range(4))]:
            self.setUp()
            for disk in gone:
                self.disks.away(disk)
            self.assertEqual(self.read(F, 0, 9), (list(DATA[:9]), asks(27, seen)))

    def test_reads_are_counted(self):
        self.disks.away(0)
        self.bad(27, [1])
        before = self.disks.counts()
        self.files.read(F, 0, 97)
        self.assertEqual(self.disks.counts(), (before[0] + 5 + 4,) + before[1:])

    def test_what_rots_under_a_write_that_waits(self):
        self.disks.write(0, 27, self.disks.cell(0, 27))
        self.spoil(27, [0])
        self.assertEqual(self.read(F, 0, 9)[0], list(DATA[:9]))


class TestRightOrLost(FilesCase):
    def check(self, sizes, wrong, unread):
        """Point 2 for a file of one block whose stripe is wrong and cannot be read on these disks."""
        n, _, k, s = sizes
        disks = Watched(*sizes)
        files = Files(disks, True)
        data = tuple(sector(n)) * k
        files.change([("file", F), ("put", F, 0, data)])
        at = 2 + 2 * ((sizes[1] - 2) // 4)
        for disk in wrong:
            disks.rot(disk, at, changed(disks.cell(disk, at), disk))
        for disk in unread:
            disks.bad(disk, at)
        right = len(wrong) + len(unread) + k + s <= n
        told = list(data) if right else [None] * len(data)
        self.assertEqual(files.read(F, 0, 32 * k), told, (sizes, wrong, unread))
        self.assertEqual(files.scrub(5), (len(wrong) + len(unread), []) if right else (0, [0]))
        cells = [disks.cell(disk, at) for disk in range(n)]
        if right:
            self.assertEqual(cells, [disks.meant(disk, at) for disk in range(n)])
        self.assertEqual(files.read(F, 0, 32 * k), told)

    def test_all_numbers_of_wrong_and_unreadable_sectors(self):
        for n, k, s in depths():
            for wrong in range(min(s, n) + 1):
                for unread in range(n - wrong + 1):
                    places = list(range(n))
                    turned = places[wrong + unread:] + places[:wrong + unread]
                    for row in (places, turned):
                        self.check((n, 48, k, s), row[:wrong], row[wrong:wrong + unread])

    def test_all_choices_of_disks(self):
        for wrong in list(combinations(range(5), 1)) + [()]:
            rest = [disk for disk in range(5) if disk not in wrong]
            for many in range(3):
                for unread in combinations(rest, many):
                    self.check((5, 48, 2, 1), wrong, unread)


class TestTold(ReadCase):
    def test_trees(self):
        self.assertEqual(self.files.tree(), [(D, None), (("d", "x"), 3), (F, 250), (G, 0)])
        self.assertEqual(self.files.tree("s"), [(D, None), (F, 230), (G, 0)])
        self.assertEqual(self.files.tree(None), self.files.tree())
        self.assertEqual(self.files.tree(snapshot="s"), self.files.tree("s"))
        self.assertEqual(self.disks.take(), [])

    def test_the_order_of_paths(self):
        self.files.change([("drop", F), ("drop", G), ("drop", D)] + [
            ("folder", (name,)) for name in ("b", "a_b", "a1", "ab", "a")]
            + [("file", ("a", "z")), ("file", ("a1", "_"))])
        self.assertEqual([path for path, _ in self.files.tree()],
                         [("a",), ("a", "z"), ("a1",), ("a1", "_"), ("a_b",), ("ab",), ("b",)])

    def test_snapshots(self):
        self.assertEqual(self.files.snapshots(), ["s"])
        self.files.change([("snap", name) for name in ("z", "a_", "a", "a1", "9")])
        self.assertEqual(self.files.snapshots(), ["9", "a", "a1", "a_", "s", "z"])
        self.files.change([("forget", "s"), ("forget", "9")])
        self.assertEqual(self.files.snapshots(), ["a", "a1", "a_", "z"])
        self.restart()
        self.assertEqual(self.files.snapshots(), ["a", "a1", "a_", "z"])

    def test_status(self):
        # An image and a group of one sector each, and a group of two.
        self.assertEqual(self.files.status(), (2, 2, 7, 24 - 7))
        self.assertIsInstance(self.files.status(), tuple)
        self.files.change([("drop", F)])
        self.assertEqual(self.files.status(), (3, 3, 6, 24 - 4))
        self.files.change([("forget", "s"), ("snap", "t")])
        self.assertEqual(self.files.status(), (4, 4, 5, 24 - 1))
        self.restart()
        self.assertEqual(self.files.status(), (4, 4, 5, 24 - 1))
        for number in range(5):
            self.files.change([("trim", ("d", "x"), 0)])
            self.assertEqual(self.files.status()[:3], (5 + number, 5 + number, 4 - number))
        self.files.change([("forget", "t")])
        self.assertEqual(self.files.status(), (10, 0, 10, 24))

    def test_without_any_disk(self):
        for disk in ALL:
            self.disks.away(disk)
        self.assertEqual(self.files.tree(), [(D, None), (("d", "x"), 3), (F, 250), (G, 0)])
        self.assertEqual((self.files.snapshots(), self.files.status()[0]), (["s"], 2))
