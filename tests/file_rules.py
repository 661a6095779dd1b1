"""Points 26 to 35 once more, over RuleDisks, and rows of calls at random, written apart from the program.

What counts is not read out of the sectors here, but remembered for each number of commits; what the
votes tell is only compared with it.
"""

from copy import deepcopy

from tests.code_rules import GROUP, IMAGE, plain_image, plain_record, write
from tests.disk_rules import RuleDisks
from tests.rules import rule_accepted, rule_read, rule_word
from tests.tree_rules import Chance, RulePlan, RuleTree


class Stop(Exception):
    """A call ends with an error, whose name comes first."""


def leaf_data(leaf):
    """What a state has for a file."""
    return (len(leaf.data), leaf.stripes)


def image_data(commits, tree):
    """The bytes of an image."""
    return write(IMAGE, plain_image(commits, tree.things(leaf_data), tree.snapshots(leaf_data)))


def group_data(records):
    """The bytes of a group."""
    return write(GROUP, [plain_record(record) for record in records])


def block_sectors(data):
    """The sectors of a log block."""
    text = len(data).to_bytes(4, "big") + bytes(data)
    text += b"\0" * (32 * 200 - len(text) % 32)
    many = -(-(len(data) + 4) // 32)
    return [list(text[32 * at:32 * at + 32]) for at in range(many)]


def tail_sector(commits, area, image, counting):
    """The sector of a tail."""
    text = b"FILE" + commits.to_bytes(6, "big") + bytes([area])
    text += image.to_bytes(4, "big") + counting.to_bytes(4, "big")
    return list(text.ljust(32, b"\0"))


def rule_vote(cells, s):
    """Point 14."""
    met = [tuple(cell) for cell in cells if cell is not None]
    for cell in set(met):
        if met.count(cell) > s and len(met) - met.count(cell) <= s:
            return list(cell)
    return None


class Counting:
    """What counts after a commit: the tree, the area, the sectors of the image and all that count."""

    def __init__(self, commits, tree, area, image, rows, groups):
        self.commits = commits
        self.tree = tree
        self.area = area
        self.image = image
        self.rows = rows
        self.groups = groups

    def tail(self):
        return tail_sector(self.commits, self.area, self.image, len(self.rows))


class RuleFiles:
    """Disks, and the files that are open on them, if any."""

    def __init__(self, disks, sectors, carrying, depth):
        self.n, self.m, self.k, self.s = disks, sectors, carrying, depth
        self.disks = RuleDisks(disks, sectors)
        self.size = (sectors - 2) // 4
        self.region = 2 + 2 * self.size
        self.block = 32 * carrying
        self.formatted = False
        self.place = 0
        # The number of losses at the last opening, or None before.
        self.opened = None
        self.now = None
        self.known = {}
        # Whether power failed while tails were written, and no opening has ended since.
        self.torn = False
        self.seen = []

    def in_use(self):
        return self.opened is not None and self.opened == self.disks.lost

    def call(self, name, *arguments):
        """What a call of the program comes to, as `outcome` tells it."""
        try:
            if name not in ("make", "find") and not self.in_use():
                raise Stop("FilesClosed")
            return "done", getattr(self, name)(*arguments)
        except Stop as stop:
            return stop.args

    # What is done to the disks.

    def there(self):
        return [disk for disk in self.disks.all if disk not in self.disks.gone]

    def ask(self, disk, at):
        self.seen.append(("ask", disk, at))
        return self.disks.ask(disk, at)

    def ask_all(self, at):
        return [self.ask(disk, at) if disk in self.there() else None for disk in self.disks.all]

    def vote(self, at):
        return rule_vote(self.ask_all(at), self.s)

    def write(self, disk, at, data):
        if self.disks.write(disk, at, data) == "off":
            raise Stop("PowerOff")
        self.seen.append(("write", disk, at, data))

    def write_all(self, at, data):
        for disk in self.disks.all:
            self.write(disk, at, data)

    def sync(self):
        if self.disks.sync() == "off":
            raise Stop("PowerOff")
        self.seen.append(("sync",))

    def tails(self, order, data):
        self.torn = True
        for at in order:
            self.write_all(at, data)
            self.sync()
        self.torn = False

    # The calls.

    def make(self):
        if not self.disks.on:
            raise Stop("PowerOff")
        if self.formatted:
            raise Stop("AlreadyFormatted")
        rows = block_sectors(image_data(0, RuleTree()))
        self.known = {0: Counting(0, RuleTree(), 0, len(rows), rows, 0)}
        self.now = self.known[0]
        for at, row in enumerate(rows):
            self.write_all(2 + at, row)
        self.sync()
        self.tails([0, 1], self.now.tail())
        self.formatted = True
        self.opened = self.disks.lost

    def find(self):
        for wrong, name in [(not self.disks.on, "PowerOff"), (not self.formatted, "NotFormatted"),
                            (self.in_use(), "FilesOpen")]:
            if wrong:
                raise Stop(name)
        told = [self.vote(0), self.vote(1)]
        ready = [at for at in (0, 1) if told[at] is not None]
        numbers = {at: int.from_bytes(bytes(told[at][4:10]), "big") for at in ready}
        if not ready:
            raise Stop("FilesLost")
        first = max(ready, key=lambda at: (numbers[at], -at))
        now = self.known[numbers[first]]
        assert told[first] == now.tail()
        rows = [self.vote(2 + now.area * self.size + at) for at in range(len(now.rows))]
        if None in rows:
            raise Stop("FilesLost")
        assert rows == now.rows
        self.tails([first, 1 - first], now.tail())
        self.now = now
        self.opened = self.disks.lost

    def stripe(self, stripe):
        """The block of a stripe, or None."""
        at = self.region + stripe
        cells = [self.disks.cell(disk, at) for disk in self.disks.all]
        word, looked = rule_read(cells, self.k, self.s)
        for disk in self.there():
            if disk < looked:
                self.ask(disk, at)
        return None if word is None else [byte for row in word[:self.k] for byte in row]

    def change(self, changes):
        if not changes:
            return
        plan = RulePlan(self.now.tree, self.m - self.region, self.block, changes)
        if plan.refused is not None:
            raise Stop("Refused", *plan.refused)
        found = [self.stripe(stripe) for _, stripe in plan.reads]
        if None in found:
            index = plan.reads[found.index(None)][0]
            raise Stop("Refused", index, ("lost", changes[index][1]))
        commits = self.now.commits + 1
        image = block_sectors(image_data(commits, plan.tree))
        if len(image) > self.size:
            raise Stop("DisksFull")
        group = block_sectors(group_data(plan.records))
        old = self.now
        if len(old.rows) + len(group) <= self.size:
            now = Counting(commits, plan.tree, old.area, old.image, old.rows + group, old.groups + 1)
            new = range(len(old.rows), len(now.rows))
        else:
            now = Counting(commits, plan.tree, 1 - old.area, len(image), image, 0)
            new = range(len(image))
        self.known[commits] = now
        for stripe, block in plan.writes():
            word = rule_word({at: block[32 * at:32 * at + 32] for at in range(self.k)}, self.n)
            for disk in self.disks.all:
                self.write(disk, self.region + stripe, word[disk])
        for at in new:
            self.write_all(2 + now.area * self.size + at, now.rows[at])
        self.sync()
        self.tails([0, 1], now.tail())
        self.now = now

    def things(self, snapshot):
        if snapshot is None:
            return self.now.tree.things(lambda leaf: leaf)
        told = self.now.tree.snapshots(lambda leaf: leaf)
        if snapshot not in told:
            raise Stop("Refused", 0, ("no snapshot", snapshot))
        return told[snapshot]

    def known_file(self, path, snapshot=None):
        """The file at a path, or None."""
        roots = self.now.tree.snapshots(lambda leaf: leaf)
        roots[None] = self.now.tree.things(lambda leaf: leaf)
        return roots.get(snapshot, {}).get(path)

    def read(self, path, start, end, snapshot=None):
        if not 0 <= start <= end:
            raise Stop("InvalidArgument")
        things = self.things(snapshot)
        problem = None
        if path == ():
            problem = ("root",)
        elif path not in things:
            problem = ("nothing", path)
        elif things[path] is None:
            problem = ("no file", path)
        elif end > len(things[path].data):
            problem = ("behind end", path)
        if problem:
            raise Stop("Refused", 0, problem)
        told = {}
        for number in sorted({at // self.block for at in range(start, end)}):
            told[number] = self.stripe(things[path].stripes[number]) or [None] * self.block
        return [told[at // self.block][at % self.block] for at in range(start, end)]

    def tree(self, snapshot=None):
        things = self.things(snapshot)
        return [(path, things[path] and len(things[path].data)) for path in sorted(things)]

    def snapshots(self):
        return sorted(self.now.tree.snaps)

    def places(self):
        """The places of a scrub, with what is meant there, which is None for a stripe."""
        area = 2 + self.now.area * self.size
        places = [(0, self.now.tail()), (1, self.now.tail())]
        places += [(area + at, row) for at, row in enumerate(self.now.rows)]
        return places + [(self.region + stripe, None) for stripe in self.now.tree.used()]

    def scrub(self, steps):
        if type(steps) is not int or steps not in range(1, 9):
            raise Stop("InvalidArgument")
        places = self.places()
        written, lost = 0, []
        for _ in range(steps):
            at, row = places[self.place % len(places)]
            self.place = self.place % len(places) + 1
            cells = self.ask_all(at)
            word = rule_accepted(cells, self.k, self.s) if row is None else [row] * self.n
            if word is None:
                lost.append(at - self.region)
                continue
            for disk in self.there():
                if cells[disk] != word[disk]:
                    self.write(disk, at, word[disk])
                    written += 1
        self.sync()
        return written, lost

    def status(self):
        now = self.now
        free = self.m - self.region - len(now.tree.used())
        return (now.commits, now.groups, self.size - len(now.rows), free)


class FileChance(Chance):
    """Calls and faults at random, most of them possible; faults keep to the premise of point 36."""

    def __init__(self, seed, block):
        super().__init__(seed)
        self.block = block

    def change(self, tree):
        told = super().change(tree)
        if told[0] != "put" or self.random.randrange(3) == 0:
            return told
        many = self.random.choice([1, 20, self.block - 1, self.block, self.block + 1, 2 * self.block + 7])
        return told[:3] + (tuple(self.random.choices(range(256), k=many)),)

    def new_path(self, tree):
        path = super().new_path(tree)
        if path and self.random.randrange(2):
            # Long names, so that images do not fit at some time.
            path = path[:-1] + (self.random.choice("abcdefg") * self.random.choice([9, 12]),)
        return path

    def changes(self, tree):
        return self.row(tree, self.random.choice([0, 1, 1, 1, 2, 2, 3, 5]))

    def range(self, tree):
        """Arguments of a read."""
        snapshot = self.random.choice([None] * 6 + list(tree.snaps) * 2 + ["s"])
        known = RuleTree()
        known.root = tree.snaps.get(snapshot, tree.root)
        lengths = {path: len(data) for path, data in known.things().items() if data}
        path = self.path(known)
        if lengths and self.random.randrange(4):
            path = self.random.choice(list(lengths))
        length = lengths.get(path, 0)
        marks = [0, length, self.random.randrange(length + 1), self.random.randrange(length + 1)]
        marks += [at for at in (self.block - 1, self.block, self.block + 1) if at <= length]
        start, end = sorted(self.random.choices(marks, k=2))
        if self.random.randrange(15) == 0:
            start, end = self.random.choice([(-1, 0), (end + 1, end), (0, length + 1), (length, length + 1)])
        return path, start, end, snapshot

    def kept(self, disks):
        """What arrives: all or nothing, all up to some write, or anything."""
        kind = self.random.randrange(4)
        rows = []
        for disk in range(self.random.choice([disks, disks, disks, disks - 1, disks + 1])):
            many = self.random.randrange(90)
            if kind == 0:
                rows.append([True] * many)
            elif kind == 1:
                rows.append([bool(self.random.randrange(9))] * 90)
            else:
                rows.append(self.random.choices([True, False], weights=[kind, 1], k=many))
        return rows

    def sector(self, region, sectors):
        """A sector to be damaged, mostly of the tails, of what counts, or of the first stripes."""
        near = [0, 1, *range(2, 6), *range(region, region + 8)]
        return self.random.choice(near + [self.random.randrange(sectors)])
