"""Points 9 to 11 and 13 once more, and faults at random, written apart from the program."""

from random import Random

from tests.rules import sector


class RuleDisks:
    """All that happened to disks, kept as one queue of writes and one dict of sectors."""

    def __init__(self, disks, sectors):
        self.all = range(disks)
        self.sectors = range(sectors)
        self.gone = set()
        self.media = {}
        self.queue = []
        self.on = True
        self.left = None
        self.lost = 0
        self.counted = [0, 0, 0]

    def cell(self, disk, at):
        told = self.media.get((disk, at))
        for place, data in self.queue:
            if place == (disk, at):
                told = data
        return told

    def operation(self):
        """Tells whether an operation is made."""
        if self.on and self.left == 0:
            self.on = False
            self.lost += 1
        if self.on and self.left is not None:
            self.left -= 1
        return self.on

    def write(self, disk, at, data):
        if not self.operation():
            return "off"
        if disk not in self.gone:
            self.counted[1] += 1
            self.queue.append(((disk, at), data))
        return None

    def sync(self):
        if not self.operation():
            return "off"
        self.counted[2] += 1
        self.media.update(self.queue)
        self.queue = []
        return None

    def ask(self, disk, at):
        self.counted[0] += disk not in self.gone
        return self.cell(disk, at)

    def rot(self, disk, at, data):
        if disk not in self.gone:
            self.media[disk, at] = data

    def bad(self, disk, at):
        self.media.pop((disk, at), None)

    def empty(self, disk):
        self.media = {place: data for place, data in self.media.items() if place[0] != disk}
        self.queue = [row for row in self.queue if row[0][0] != disk]

    def away(self, disk):
        self.gone.add(disk)
        self.empty(disk)

    def blank(self, disk):
        self.gone.discard(disk)
        self.empty(disk)

    def fail_after(self, operations):
        if not self.on:
            return "off"
        self.left = operations
        return None

    def power(self, kept):
        self.lost += self.on
        self.on = True
        self.left = None
        for disk in self.all:
            rows = [row for row in self.queue if row[0][0] == disk]
            choice = kept[disk] if disk < len(kept) else []
            for number, (place, data) in enumerate(rows):
                if number < len(choice) and choice[number]:
                    self.media[place] = data
        self.queue = []

    def told(self):
        """All that disks tell: whether they are there, what waits, cells, counts and power."""
        return (
            [disk not in self.gone for disk in self.all],
            [sum(place[0] == disk for place, _ in self.queue) for disk in self.all],
            [[self.cell(disk, at) for at in self.sectors] for disk in self.all],
            tuple(self.counted),
            self.on,
            self.lost,
        )


def told_of(disks):
    """The same of the program's Disks, some sectors of which were asked."""
    many, sectors = disks.sizes()[:2]
    return (
        [disks.is_there(disk) for disk in range(many)],
        [disks.pending(disk) for disk in range(many)],
        [[disks.cell(disk, at) for at in range(sectors)] for disk in range(many)],
        disks.counts(),
        disks.is_on(),
        disks.losses(),
    )


def happenings(seed, disks, many):
    """Names and arguments of methods: writes, syncs, faults and losses of power, at random."""
    random = Random(seed)
    rows = []
    for step in range(many):
        disk = random.randrange(disks)
        at = random.randrange(5)
        kind = random.choice(["write"] * 8 + ["ask"] * 4 + ["sync", "rot", "rot", "bad", "bad"]
                             + random.choice([["away"], ["blank"], ["power"], ["fail_after"]]))
        arguments = (disk, at)
        if kind in ("write", "rot"):
            arguments = (disk, at, sector(seed * many + step))
        elif kind in ("away", "blank"):
            arguments = (disk,)
        elif kind == "sync":
            arguments = ()
        elif kind == "fail_after":
            arguments = (random.randrange(8),)
        elif kind == "power":
            lists = random.randrange(disks + 3)
            arguments = ([random.choices([True, False], k=random.randrange(6)) for _ in range(lists)],)
        rows.append((kind, arguments))
    return rows
