"""Disks that are watched: what was asked and written, and what each sector is meant to be (point 12)."""

from rotward.disks import Disks
from rotward.errors import PowerOff, Refused, RotError


class Watched(Disks):
    """Disks that keep a list of all that was asked, written and synced, and a model without faults."""

    def __init__(self, *sizes):
        self.seen = []
        self.meant_media = {}
        self.meant_queue = []
        super().__init__(*sizes)

    def ask(self, disk, sector):
        self.seen.append(("ask", disk, sector))
        return super().ask(disk, sector)

    def write(self, disk, sector, data):
        self.seen.append(("write", disk, sector, list(data)))
        try:
            super().write(disk, sector, data)
        except PowerOff:
            self.seen.pop()
            raise
        self.meant_queue.append(((disk, sector), list(data)))

    def sync(self):
        super().sync()
        self.seen.append(("sync",))
        self.meant_media.update(self.meant_queue)
        self.meant_queue = []

    def _arrive(self, disk):
        self.meant_media.update([row for row in self.meant_queue if row[0][0] == disk])
        self.meant_queue = [row for row in self.meant_queue if row[0][0] != disk]

    def away(self, disk):
        super().away(disk)
        self._arrive(disk)

    def blank(self, disk):
        super().blank(disk)
        self._arrive(disk)

    def power(self, kept):
        super().power(kept)
        for disk in range(self.sizes()[0]):
            if self.is_there(disk):
                choice = list(kept[disk]) if disk < len(kept) else []
                rows = [row for row in self.meant_queue if row[0][0] == disk]
                self.meant_media.update([row for row, arrives in zip(rows, choice) if arrives])
                self.meant_queue = [row for row in self.meant_queue if row[0][0] != disk]
            else:
                self._arrive(disk)

    def meant(self, disk, sector):
        """What the sector is meant to be, None if it was never written."""
        told = self.meant_media.get((disk, sector))
        for place, data in self.meant_queue:
            if place == (disk, sector):
                told = data
        return told

    def wrong(self, sector):
        """On how many disks a sector can be read and is not what it is meant to be."""
        cells = [self.cell(disk, sector) for disk in range(self.sizes()[0])]
        return sum(cell is not None and cell != self.meant(disk, sector) for disk, cell in enumerate(cells))

    def unread(self, sector):
        """On how many disks a sector cannot be read."""
        return sum(self.cell(disk, sector) is None for disk in range(self.sizes()[0]))

    def take(self):
        """What was seen since the last call."""
        seen, self.seen = self.seen, []
        return seen


def outcome(call, *arguments):
    """What a call returned, or the name of its error, with what Refused tells."""
    try:
        return "done", call(*arguments)
    except Refused as error:
        return "Refused", error.index, error.problem
    except RotError as error:
        return (type(error).__name__,)


def picture(disks):
    """All that disks hold, with their flags, but for the counts."""
    many, sectors = disks.sizes()[:2]
    return ([[disks.cell(disk, at) for at in range(sectors)] for disk in range(many)],
            [disks.pending(disk) for disk in range(many)], disks.formatted, disks.in_use,
            disks.scrub_place, disks.is_on(), disks.losses(), disks.counts()[1:])


def asks(sector, disks):
    """That a sector is asked of these disks."""
    return [("ask", disk, sector) for disk in disks]


def writes(sector, content, disks):
    """That the same is written on these disks."""
    return [("write", disk, sector, content) for disk in disks]


def word_writes(sector, word):
    """That a word is written."""
    return [("write", disk, sector, content) for disk, content in enumerate(word)]


SYNC = [("sync",)]
