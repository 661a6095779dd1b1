"""Promise 1 of point 36, and the files that a failure of power closes."""

from rotward.files import Files
from rotward.trees import Tree
from tests.files_case import ALL, D, F, G, FilesCase, numbered
from tests.watched import outcome, picture

KEPT = [[], [[True] * 99] * 6, [[True, False] * 40] * 6, [[True] * 99] * 3, [[True] * 12, [True] * 3] * 3,
        [[False] * 8 + [True] * 80] * 5 + [[True] * 80]]


class PowerCase(FilesCase):
    # Changes one after another; before the third one the area is full.
    rows = [[("file", F), ("put", F, 0, numbered(150))],
            [("folder", D), ("snap", "s"), ("put", F, 140, numbered(30, 7)), ("file", G)],
            [("move", F, ("d", "f")), ("put", ("d", "f"), 3, (1, 1)), ("put", G, 0, numbered(97, 90))]]

    def prepare(self, many):
        """New files with the first rows of changes."""
        self.setUp()
        for changes in self.rows[:many]:
            self.files.change(changes)
        while many == 2 and self.files.status()[2]:
            self.files.change([("trim", G, 0)])
        self.disks.take()

    def all_contents(self, many):
        """What the files are before and after the change, and how many operations it has."""
        self.prepare(many)
        before = self.contents()
        self.disks.take()
        self.files.change(self.rows[many])
        operations = len([row for row in self.disks.take() if row[0] != "ask"])
        return before, self.contents(), operations


class TestChanges(PowerCase):
    def test_power_fails_at_each_operation(self):
        for many in range(3):
            before, after, operations = self.all_contents(many)
            self.assertEqual(after[1][1] == 0, many == 2)
            self.assertGreater(operations, 20)
            found = []
            for operation in range(operations + 1):
                for kept in KEPT:
                    self.prepare(many)
                    self.disks.fail_after(operation)
                    told = outcome(self.files.change, self.rows[many])
                    if operation == operations:
                        self.assertEqual((told, self.contents()), (("done", None), after))
                        continue
                    self.assertEqual(told, ("PowerOff",))
                    self.closed()
                    self.disks.power(kept)
                    self.closed()
                    self.files = Files(self.disks, False)
                    told = self.contents()
                    self.assertIn(told, (before, after))
                    found.append(told == after)
                    self.again(many, told == before, after)
            # The first tail has to arrive on all disks but one, at least.
            self.assertFalse(any(found[:len(KEPT) * (operations - 14)]))
            self.assertTrue(all(found[len(KEPT) * (operations - 7):]))
            self.assertGreater(found.count(True), 7 * len(KEPT))

    def again(self, many, needed, after):
        """The change is made if it was not; the files are as if nothing had happened, and stay so."""
        if needed:
            self.files.change(self.rows[many])
        self.assertEqual(self.contents(), after)
        self.disks.power([])
        self.files = Files(self.disks, False)
        self.assertEqual(self.contents(), after)

    def test_with_disks_that_are_away_or_wrong(self):
        for many in range(3):
            before, after, operations = self.all_contents(many)
            for operation in range(operations):
                self.prepare(many)
                self.disks.away(4)
                for at in (0, 1, 2, 3, 13, 24):
                    self.spoil(at, [at % 4])
                self.disks.fail_after(operation)
                self.assertEqual(outcome(self.files.change, self.rows[many]), ("PowerOff",))
                self.disks.power(KEPT[operation % len(KEPT)])
                for at in range(24):
                    if self.disks.wrong(at) > 1:
                        self.bad(at, range(4))
                told = outcome(Files, self.disks, False)
                if told != ("FilesLost",):
                    self.files = told[1]
                    self.assertIn(self.contents(), (before, after))

    def test_power_fails_and_then_in_openings(self):
        before, after, operations = self.all_contents(1)
        for operation in range(operations - 16, operations):
            for step in range(14):
                self.prepare(1)
                self.disks.fail_after(operation)
                outcome(self.files.change, self.rows[1])
                for kept in (KEPT[step % len(KEPT)], KEPT[operation % len(KEPT)], KEPT[2]):
                    self.disks.power(kept)
                    self.disks.fail_after(step)
                    self.assertEqual(outcome(Files, self.disks, False), ("PowerOff",))
                self.disks.power([])
                self.files = Files(self.disks, False)
                told = self.contents()
                self.assertIn(told, (before, after))
                self.again(1, told == before, after)


class TestClosed(PowerCase):
    def test_power_that_is_switched_off_and_on(self):
        self.files.change(self.rows[0])
        for _ in range(3):
            old = self.files
            before = self.contents()
            self.disks.power([])
            self.closed(old)
            self.files = Files(self.disks, False)
            self.closed(old)
            self.assertEqual(self.contents(), before)

    def test_power_that_failed_at_an_operation_of_somebody_else(self):
        self.disks.fail_after(0)
        outcome(self.disks.sync)
        self.closed()
        self.disks.power([])
        self.closed()

    def test_a_failure_that_is_set_closes_nothing(self):
        self.disks.fail_after(0)
        self.assertEqual((self.files.tree(), self.files.snapshots()), ([], []))
        self.assertEqual(outcome(self.files.change, []), ("done", None))
        self.assertEqual(outcome(self.files.change, [("drop", F)]), ("Refused", 0, ("nothing", F)))
        self.assertEqual(outcome(self.files.scrub, 0), ("InvalidArgument",))
        self.assertEqual(outcome(self.files.change, [("file", F)]), ("PowerOff",))
        self.closed()

    def test_nothing_waits_behind_a_change(self):
        self.files.change(self.rows[0])
        self.assertEqual([self.disks.pending(disk) for disk in ALL], [0] * 6)
        before = picture(self.disks)[0]
        self.disks.power([])
        self.assertEqual(picture(self.disks)[0], before)

    def test_the_files_are_those_of_all_changes_that_returned(self):
        tree, failed = Tree(), 0
        for number in range(80):
            changes = [("put", F, number // 2, numbered(number + 1, number)), ("trim", F, number // 2 + 1)]
            if F not in tree.things:
                changes = [("file", F)] + changes
            self.disks.fail_after(10 + 7 * number % 50)
            done = outcome(self.files.change, changes)[0] == "done"
            self.disks.power(KEPT[number % len(KEPT)])
            self.files = Files(self.disks, False)
            after = tree.made_all(changes)
            if not done:
                failed += 1
                done = self.things() != tree.things
            tree = after if done else tree
            self.assertEqual(self.things(), tree.things)
            if not done:
                self.files.change(changes)
                tree = after
        self.assertGreater(failed, 20)

    def things(self):
        """What a Tree has, read from the files."""
        return {path: tuple(self.files.read(path, 0, length)) for path, length in self.files.tree()}
