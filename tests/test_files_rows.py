"""Points 26 to 36: calls, faults and losses of power at random, against rules written apart.

All that is asked and written, in its order, what is told and raised, and what disks hold is compared.
The promises under point 36 are checked besides, from what the sectors are meant to hold.
"""

import unittest
from copy import deepcopy

from rotward.files import Files
from tests.disk_rules import told_of
from tests.file_rules import FileChance, RuleFiles
from tests.rules import sector
from tests.watched import Watched, outcome

SIZES = [(4, 48, 1, 1), (4, 49, 2, 1), (5, 50, 2, 2), (6, 51, 3, 1), (6, 48, 1, 3), (7, 52, 4, 2),
         (8, 48, 2, 3), (4, 55, 3, 1), (5, 64, 1, 4)]
CALLS = ["change"] * 12 + ["read"] * 8 + ["scrub"] * 5 + ["status", "tree", "snapshots"]
FAULTS = ["rot"] * 5 + ["bad"] * 3 + ["away", "blank"]
POWERS = ["fail_after"] * 3 + ["power"]


class Run:
    """One run of calls on the program and on the rules."""

    def __init__(self, case, seed, sizes, faults):
        self.case = case
        self.chance = FileChance(seed, 32 * sizes[2])
        self.random = self.chance.random
        self.faults = faults
        self.sizes = sizes
        self.disks = Watched(*sizes)
        self.rule = RuleFiles(*sizes)
        self.files = None
        self.told = []
        self.fresh = seed * 10 ** 6
        # The commits that returned without an error, and whether power failed in one more.
        self.settled = 0
        self.open_end = False

    def same(self, what):
        """Compares all that can be seen."""
        rule, disks = self.rule, self.disks
        self.case.assertEqual(disks.take(), rule.seen, what)
        rule.seen = []
        self.case.assertEqual(told_of(disks), rule.disks.told(), what)
        self.case.assertEqual((disks.formatted, disks.in_use, disks.scrub_place),
                              (rule.formatted, rule.in_use(), rule.place), what)

    def begin(self, new):
        """A formatting or an opening."""
        sure = not new and self.surely_found()
        made = outcome(Files, self.disks, new)
        if made[0] == "done":
            self.files = made[1]
            made = ("done", None)
        right = self.rule.call("make" if new else "find")
        self.case.assertEqual(made, right)
        self.told.append(made)
        self.same(new)
        if sure:
            self.case.assertNotEqual(made, ("FilesLost",))
        if made[0] == "done":
            self.case.assertIn(self.rule.now.commits, [self.settled, self.settled + self.open_end])
            self.settled, self.open_end = self.rule.now.commits, False

    def call(self, name):
        """A call of a method of Files."""
        arguments = []
        tree = self.rule.now.tree
        if name == "change":
            arguments = [self.chance.changes(tree)]
        elif name == "read":
            arguments = list(self.chance.range(tree))
            arguments = arguments[:3] if arguments[3] is None else arguments
        elif name == "scrub":
            arguments = [self.random.choice([1, 1, 2, 3, 5, 8, 8, self.random.choice([0, 9, -1, True])])]
        elif name == "tree":
            arguments = self.random.choice([[], [None], ["s"], ["t"]])
        before = deepcopy(arguments)
        promised = self.promised(name, arguments)
        told = outcome(getattr(self.files, name), *arguments)
        self.case.assertEqual(arguments, before)
        self.case.assertEqual(told, self.rule.call(name, *arguments), (name, arguments))
        self.told.append((name,) + told)
        self.same((name, arguments))
        if name == "change" and told[0] == "done" and arguments != [[]]:
            self.settled += 1
        self.open_end = self.open_end or (name == "change" and told == ("PowerOff",))
        if name == "read" and told[0] == "done":
            self.case.assertEqual(told[1], promised)
        if name == "scrub" and told[0] == "done":
            for at in promised:
                for disk in self.rule.there():
                    self.case.assertEqual(self.disks.cell(disk, at), self.disks.meant(disk, at))

    def tells(self, at):
        """Point 2: whether a stripe is told right."""
        many, _, carrying, depth = self.sizes
        self.case.assertLessEqual(self.disks.wrong(at), depth)
        return self.disks.wrong(at) + self.disks.unread(at) + carrying + depth <= many

    def promised(self, name, arguments):
        """The bytes that a read tells, or the sectors that a scrub makes right."""
        if name == "read":
            path, start, end = arguments[:3]
            leaf = self.rule.known_file(path, *arguments[3:])
            if leaf is None or not 0 <= start <= end <= len(leaf.data):
                return None
            right = [self.tells(self.rule.region + stripe) for stripe in leaf.stripes]
            return [leaf.data[at] if right[at // self.rule.block] else None for at in range(start, end)]
        if name == "scrub" and self.rule.in_use():
            places = self.rule.places()
            steps = min(arguments[0], len(places))
            gone_over = [places[(self.rule.place + step) % len(places)] for step in range(steps)]
            return [at for at, row in gone_over if row is not None or self.tells(at)]
        return None

    def surely_found(self):
        """Promise 4: whether an opening surely finds the files."""
        if self.rule.torn or not self.rule.formatted or not self.disks.is_on() or self.disks.in_use:
            return False
        # Without a failure of power in the tails both of them tell the same, which is meant.
        tails = [self.disks.meant(disk, at) for at in (0, 1) for disk in range(self.sizes[0])]
        now = self.rule.known[int.from_bytes(bytes(tails[0][4:10]), "big")]
        self.case.assertEqual(tails, [now.tail()] * len(tails))
        start = 2 + now.area * self.rule.size
        for at in [0, 1] + list(range(start, start + len(now.rows))):
            right = self.sizes[0] - self.disks.wrong(at) - self.disks.unread(at)
            if self.disks.wrong(at) > self.sizes[3] or right <= self.sizes[3]:
                return False
        return True

    def fault(self, name):
        """A fault, unless a sector would be wrong on more disks than the premise allows."""
        many, sectors, _, depth = self.sizes
        disk = self.random.randrange(many)
        at = self.chance.sector(self.rule.region, sectors)
        arguments = [disk, at]
        if name in ("away", "blank"):
            arguments = [disk]
            if name == "away" and len(self.rule.there()) < many - 1:
                name = "blank"
        elif name == "rot":
            if self.disks.wrong(at) >= depth:
                return
            self.fresh += 1
            arguments.append(sector(self.fresh))
        getattr(self.disks, name)(*arguments)
        getattr(self.rule.disks, name)(*arguments)
        self.same(name)

    def power(self, name):
        """A failure of power, now or later."""
        argument = self.random.randrange(60) if name == "fail_after" else self.chance.kept(self.sizes[0])
        told = outcome(getattr(self.disks, name), argument)
        right = getattr(self.rule.disks, name)(argument)
        self.case.assertEqual(told, ("PowerOff",) if right == "off" else ("done", None))
        if name == "power":
            self.keep_premise()
        self.same(name)

    def keep_premise(self):
        """What rotted may be seen again when writes do not arrive; some of it gets unreadable then."""
        many, sectors, _, depth = self.sizes
        for at in range(sectors):
            if self.disks.wrong(at) > depth:
                for disk in range(many):
                    self.disks.bad(disk, at)
                    self.rule.disks.bad(disk, at)

    def step(self):
        """Something at random."""
        if not self.disks.is_on():
            if self.random.randrange(5) == 0:
                self.call(self.random.choice(CALLS))
            if self.random.randrange(9) == 0:
                self.begin(self.random.choice([True, False]))
            return self.power(self.random.choice(["power"] * 5 + ["fail_after"]))
        if not self.disks.in_use and self.random.randrange(3):
            if self.random.randrange(3) == 0:
                self.power("fail_after")
            return self.begin(not self.disks.formatted or self.random.randrange(20) == 0)
        kind = self.random.randrange(100)
        if kind < self.faults:
            return self.fault(self.random.choice(FAULTS))
        if kind < 2 * self.faults and kind > 90 - self.faults // 3 or kind > 96:
            return self.power(self.random.choice(POWERS))
        if kind == 96:
            return self.begin(self.random.choice([True, False]))
        return self.call(self.random.choice(CALLS))


class TestRows(unittest.TestCase):
    def run_rows(self, seeds, faults, many):
        """Runs; all that was told."""
        told = []
        for seed in seeds:
            run = Run(self, seed, SIZES[seed % len(SIZES)], faults)
            run.begin(True)
            for _ in range(many):
                # Files that were lost are mostly lost at the next opening, too.
                if run.told[-3:] == [("FilesLost",)] * 3:
                    break
                # Before a formatting has ended there are no files to call.
                if run.files is None:
                    run.power("power") if not run.disks.is_on() else run.begin(True)
                else:
                    run.step()
            told += run.told
        return told

    def at_least(self, told, many, *words):
        """So many of the outcomes begin with these words."""
        self.assertGreaterEqual(len([row for row in told if row[:len(words)] == words]), many, words)

    def test_without_faults(self):
        told = self.run_rows(range(36), 0, 120)
        self.at_least(told, 300, "change", "done")
        self.at_least(told, 30, "change", "Refused")
        self.at_least(told, 20, "change", "DisksFull")
        self.at_least(told, 10, "change", "PowerOff")
        self.at_least(told, 10, "read", "FilesClosed")
        self.at_least(told, 10, "read", "InvalidArgument")
        self.at_least(told, 100, "read", "done")
        self.at_least(told, 100, "scrub", "done")
        self.at_least(told, 5, "scrub", "InvalidArgument")
        self.assertTrue([row for row in told if row[0] in ("FilesOpen", "AlreadyFormatted")])
        self.assertFalse([row for row in told if row[0] == "FilesLost"])

    def test_with_few_faults(self):
        told = self.run_rows(range(100, 145), 12, 120)
        self.at_least(told, 200, "change", "done")
        self.at_least(told, 50, "done")
        self.at_least(told, 10, "PowerOff")

    def test_with_many_faults(self):
        told = self.run_rows(range(200, 290), 40, 100)
        self.at_least(told, 3, "FilesLost")
        lost = [row for row in told if row[0] == "read" and row[1] == "done" and None in row[2]]
        self.assertGreater(len(lost), 5)
        self.assertTrue([row for row in told if row[:2] == ("scrub", "done") and row[2][1]])
        self.assertTrue([row for row in told if row[:2] == ("change", "Refused") and row[3][0] == "lost"])
