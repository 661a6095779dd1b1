"""Disks whose sectors rot, whose writes wait, and whose power fails."""

from rotward.errors import InvalidArgument, PowerOff


def is_number(value, low, high):
    """Tells whether a value is an integer from low to high, which a boolean is not."""
    if isinstance(value, bool) or not isinstance(value, int):
        return False
    return low <= value <= high


def check_sizes(disks, sectors, carrying, depth):
    """Raises InvalidArgument unless there can be disks of these sizes."""
    if not is_number(disks, 4, 8):
        raise InvalidArgument("disks is an integer from 4 to 8")
    if not is_number(sectors, 48, 200):
        raise InvalidArgument("sectors is an integer from 48 to 200")
    if not is_number(carrying, 1, disks) or not is_number(depth, 1, disks):
        raise InvalidArgument("carrying and depth are integers from 1 on, and not more than disks")
    if carrying + depth > disks:
        raise InvalidArgument("carrying and depth are together at most as many as disks")


class Disks:
    """Several disks of as many sectors each, with one power supply."""

    def __init__(self, disks, sectors, carrying, depth):
        check_sizes(disks, sectors, carrying, depth)
        self.in_use = False
        self.formatted = False
        self.scrub_place = 0
        self._sizes = (disks, sectors, carrying, depth)
        self._there = [True] * disks
        self._media = [[None] * sectors for _ in range(disks)]
        # For each disk pairs of a sector and its bytes, in the order in which they were written.
        self._waiting = [[] for _ in range(disks)]
        self._on = True
        # How many operations are still made before power fails, or None if no failure is set.
        self._left = None
        self._failures = 0
        self._reads = 0
        self._writes = 0
        self._syncs = 0

    def sizes(self):
        """The numbers of disks and of sectors, how many sectors carry data, and the depth."""
        return self._sizes

    def counts(self):
        """The numbers of reads, of writes and of syncs."""
        return (self._reads, self._writes, self._syncs)

    def is_on(self):
        """Tells whether power is on."""
        return self._on

    def losses(self):
        """How often power failed."""
        return self._failures

    def is_there(self, disk):
        """Tells whether a disk is there, not away."""
        return self._there[disk]

    def cell(self, disk, sector):
        """The cell of a sector as it is read; this counts nothing."""
        for at, data in reversed(self._waiting[disk]):
            if at == sector:
                return list(data)
        content = self._media[disk][sector]
        if content is None:
            return None
        return list(content)

    def pending(self, disk):
        """The number of writes to a disk that wait."""
        return len(self._waiting[disk])

    def ask(self, disk, sector):
        """The cell of a sector, counted as a read if the disk is there."""
        if self._there[disk]:
            self._reads += 1
        return self.cell(disk, sector)

    def write(self, disk, sector, data):
        """Writes a sector, which waits then; to a disk that is away it goes nowhere."""
        self._operate()
        if self._there[disk]:
            self._writes += 1
            self._waiting[disk].append((sector, list(data)))

    def sync(self):
        """Lays everything that waits on the media."""
        self._operate()
        self._syncs += 1
        for disk in range(self._sizes[0]):
            self._settle(disk, [True] * len(self._waiting[disk]))

    def rot(self, disk, sector, data):
        """The medium of a sector gets these bytes, if the disk is there."""
        if self._there[disk]:
            self._media[disk][sector] = list(data)

    def bad(self, disk, sector):
        """The medium of a sector cannot be read until it is written or rots."""
        self._media[disk][sector] = None

    def away(self, disk):
        """A disk is taken away, with what waits for it."""
        self._there[disk] = False
        self._empty(disk)

    def blank(self, disk):
        """A blank disk is put in the place of a disk, whether this was there or not."""
        self._there[disk] = True
        self._empty(disk)

    def fail_after(self, operations):
        """So many further operations are made; power fails at the next one."""
        if not self._on:
            raise PowerOff("power is off")
        self._left = operations

    def power(self, kept):
        """Power fails if it has not yet, and comes back; kept tells which waiting writes arrive."""
        if self._on:
            self._fail()
        for disk in range(self._sizes[0]):
            self._settle(disk, kept[disk] if disk < len(kept) else [])
        self._on = True

    def _operate(self):
        """Counts down to the failure that is set; raises PowerOff if power is off or fails."""
        if not self._on:
            raise PowerOff("power is off")
        if self._left == 0:
            self._fail()
            raise PowerOff("power fails")
        if self._left is not None:
            self._left -= 1

    def _fail(self):
        """Power fails."""
        self._on = False
        self._left = None
        self._failures += 1
        self.in_use = False

    def _settle(self, disk, kept):
        """Lays the waiting writes that are kept on the medium of a disk; nothing waits then."""
        medium = self._media[disk]
        for (sector, data), arrives in zip(self._waiting[disk], kept):
            if arrives:
                medium[sector] = data
        self._waiting[disk] = []

    def _empty(self, disk):
        """Nothing of a disk can be read, and nothing waits for it."""
        self._media[disk] = [None] * len(self._media[disk])
        self._waiting[disk] = []
