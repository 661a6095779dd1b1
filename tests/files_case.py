"""What the tests of files by hand have in common.

The disks are (6, 48, 3, 1), if nothing else is told: area 0 has the sectors 2 to 12, area 1 those from 13
to 23, stripe 0 is sector 24, there are 24 stripes, and a block has 96 bytes.
"""

import unittest

from rotward.files import Files
from tests.watched import Watched, outcome, picture

F, G, D = ("f",), ("g",), ("d",)
HEAD = [70, 73, 76, 69]
ALL = range(6)
AREA, REGION = (2, 13), 24


def tail_of(commits, area, image, counting):
    """The sector of a tail, for small numbers."""
    return HEAD + [0, 0, 0, 0, 0, commits, area, 0, 0, 0, image, 0, 0, 0, counting] + [0] * 13


def numbered(many, first=1):
    """So many bytes that are easy to tell apart."""
    return tuple((first + number) % 251 for number in range(many))


def long_names(many, letter="n"):
    """So many folders with names of 12 characters; each takes 15 bytes of an image."""
    return [("folder", (letter * 8 + f"{number:04}",)) for number in range(many)]


class FilesCase(unittest.TestCase):
    sizes = (6, 48, 3, 1)

    def setUp(self):
        self.disks = Watched(*self.sizes)
        self.files = Files(self.disks, True)
        self.disks.take()

    def restart(self, kept=()):
        """Power fails, comes back, and the files are opened."""
        self.disks.power(list(kept))
        self.files = Files(self.disks, False)
        return self.files

    def refused(self, told, *call):
        """A call of the files is refused with what is told, and changes nothing but the counts."""
        before = picture(self.disks), self.contents()
        self.disks.take()
        self.assertEqual(outcome(getattr(self.files, call[0]), *call[1:]), ("Refused",) + told)
        seen = self.disks.take()
        self.assertEqual((picture(self.disks), self.contents()), before)
        self.disks.take()
        return seen

    def contents(self, files=None):
        """All paths with their bytes, now and in the snapshots, and the status."""
        files = files or self.files
        told = {}
        for name in [None] + files.snapshots():
            told[name] = [(path, length if length is None else files.read(path, 0, length, name))
                          for path, length in files.tree(name)]
        return told, files.status()

    def closed(self, files=None):
        """All methods raise FilesClosed, before anything else, and change nothing."""
        files = files or self.files
        before = picture(self.disks), self.disks.counts()
        for call in [(files.change, []), (files.change, [("file", ())]), (files.change, [("file", F)]),
                     (files.read, F, 0, 0), (files.read, F, -1, 0), (files.read, (), 5, 1, "x"),
                     (files.tree,), (files.tree, "x"), (files.snapshots,), (files.scrub, 1),
                     (files.scrub, 0), (files.scrub, True), (files.status,)]:
            self.assertEqual(outcome(*call), ("FilesClosed",))
        self.assertEqual((picture(self.disks), self.disks.counts()), before)

    def spoil(self, sector, disks):
        """The sector of these disks gets other bytes, each time others."""
        for disk in disks:
            cell = self.disks.cell(disk, sector) or [0] * 32
            self.disks.rot(disk, sector, [byte ^ (disk + 1) for byte in cell])

    def bad(self, sector, disks):
        """The sector of these disks cannot be read."""
        for disk in disks:
            self.disks.bad(disk, sector)
